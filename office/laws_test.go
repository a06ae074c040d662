package office_test

import (
	"fmt"
	"math/rand"
	"slices"
	"strings"
	"testing"

	"snowline/api"
	"snowline/basin"
	"snowline/crew"
	"snowline/diffs"
	"snowline/radio"
	"snowline/share"
	"snowline/spring"
)

// some plays n times what is worth looking at, and looks.
func some(t *testing.T, n int, look func(p *player)) {
	t.Helper()
	for seed := range n {
		r := rand.New(rand.NewSource(int64(1000 + seed)))
		p := newPlayer(t, r, 1)
		p.start()
		for range 40 {
			p.write(0, someForm(r, p.day))
			if r.Intn(20) == 0 {
				p.wait(1)
			}
		}
		look(p)
		if t.Failed() {
			t.Fatal("seed", seed)
		}
	}
}

// spanOfScenes returns from the least to the greatest water of a cell in the extreme fields of scenes.
func spanOfScenes(t *testing.T, l []api.Scene, cell, day int) api.Span {
	t.Helper()
	all := api.Span{Lo: api.MaxWater + 1, Hi: -1}
	for _, s := range l {
		least, e := basin.Least(s)
		greatest, e2 := basin.Greatest(s)
		if e != api.OK || e2 != api.OK || basin.CheckField(s, least) != api.OK || basin.CheckField(s, greatest) != api.OK {
			t.Fatal("a scene that does not remain", s)
		}
		c := slices.IndexFunc(s.Basin.Cells, func(c api.Cell) bool { return c.No == cell })
		d := slices.Index(s.Days, day)
		all = api.Span{Lo: min(all.Lo, least[d][c]), Hi: max(all.Hi, greatest[d][c])}
	}
	return all
}

// P10.7, P0.1: the bounds of cells are attained in allowed fields, and proved; nothing narrower is.
func TestExactly(t *testing.T) {
	some(t, 25, func(p *player) {
		l, e := p.y.Scenes(0)
		if e != api.OK || len(l) == 0 {
			return
		}
		for _, cell := range l[0].Basin.Cells {
			for _, day := range l[0].Days {
				x, e := p.y.Cell(0, cell.No, day)
				same(t, "Cell", x, spanOfScenes(t, l, cell.No, day), e, api.OK)
				for _, s := range l {
					proves(t, s, cell.No, day, x)
				}
			}
		}
	})
}

// proves checks that certificates prove bounds for a scene, and narrower ones than its own are not proved.
func proves(t *testing.T, s api.Scene, cell, day int, x api.Span) {
	t.Helper()
	own, e := basin.Cell(s, cell, day)
	most, e2 := basin.Proof(s, cell, day, true)
	least, e3 := basin.Proof(s, cell, day, false)
	if e != api.OK || e2 != api.OK || e3 != api.OK || own.Lo < x.Lo || own.Hi > x.Hi {
		t.Error(own, x, e, e2, e3)
	}
	if basin.CheckProof(s, cell, day, x.Hi, true, most) != api.OK || basin.CheckProof(s, cell, day, x.Lo, false, least) != api.OK {
		t.Error("not proved", x)
	}
	if basin.CheckProof(s, cell, day, own.Hi-1, true, most) != api.ErrProof || basin.CheckProof(s, cell, day, own.Lo+1, false, least) != api.ErrProof {
		t.Error("too much is proved", own)
	}
}

// P0.1: so are the bounds of volumes.
func TestExactVolumes(t *testing.T) {
	some(t, 25, func(p *player) {
		l, e := p.y.Scenes(0)
		if e != api.OK {
			return
		}
		for _, s := range l {
			net, _, e := basin.Net(s)
			if e != api.OK {
				t.Fatal(e)
			}
			var cells []int
			weights := make([]int, net.Nodes)
			last := len(s.Days) - 1
			for i, c := range s.Basin.Cells {
				cells = append(cells, c.No)
				weights[1+last*len(s.Basin.Cells)+i] = c.Area
			}
			x, e := basin.Valley(s, cells, s.Days[last])
			if e != api.OK {
				t.Fatal(e)
			}
			provesSum(t, net, weights, x.Hi)
			for i := range weights {
				weights[i] = -weights[i]
			}
			provesSum(t, net, weights, -x.Lo)
		}
	})
}

// provesSum checks that the greatest weighted sum is attained and proved, and nothing less is proved.
func provesSum(t *testing.T, net api.Net, weights []int, most int) {
	t.Helper()
	x, is, e := diffs.Best(net, weights)
	flow, isProved, e2 := diffs.Flow(net, weights)
	if e != api.OK || e2 != api.OK || !is || !isProved {
		t.Fatal(is, e, isProved, e2)
	}
	sum := 0
	for i, w := range weights {
		sum += w * x[i]
	}
	if sum != most || diffs.CheckFlow(net, weights, most, flow) != api.OK || diffs.CheckFlow(net, weights, most-1, flow) != api.ErrProof {
		t.Error("not just this is proved", most, sum)
	}
}

// P10.7: what comes in any of today's springs, from any allowed field, is within the volume, and its ends are attained.
func TestVolumesAreAttained(t *testing.T) {
	n := 0
	some(t, 25, func(p *player) {
		x, e := p.y.Volume(0, 5, p.day+2)
		if e != api.OK {
			return
		}
		n++
		scenes, _ := p.y.Scenes(0)
		c, _ := p.y.Climate(0)
		springs, _ := p.y.Springs(0)
		all := api.Span{Lo: 1 << 60, Hi: -1}
		for _, s := range scenes {
			greatest, _ := basin.Greatest(s)
			least, _ := basin.Least(s)
			for _, field := range [][]int{greatest[len(greatest)-1], least[len(least)-1]} {
				for _, w := range springs {
					if w.Days[0].Day != p.day {
						continue
					}
					for factor := c.Factor.Lo; factor <= c.Factor.Hi; factor++ {
						v := comes(t, p, c, w, s.Basin, field, factor)
						all = api.Span{Lo: min(all.Lo, v), Hi: max(all.Hi, v)}
					}
				}
			}
		}
		if all != x {
			t.Error(all, x)
		}
	})
	if n < 5 {
		t.Error("too few volumes", n)
	}
}

// comes returns the volume that comes in the valley 5 in two days, from the water of a field.
func comes(t *testing.T, p *player, c api.Climate, w api.Spring, b api.Basin, field []int, factor int) int {
	t.Helper()
	in := p.naive(0).cellsOf(5)
	volume := 0
	for i, cell := range b.Cells {
		if slices.Contains(in, cell.No) {
			x, _, e := spring.Release(c, w, cell.Height, field[i], factor, p.day+2)
			if e != api.OK {
				t.Fatal(e)
			}
			volume += x * cell.Area
		}
	}
	return volume
}

// P10.7, P0.3: sheets that are accused cannot all be true, and each of them is needed for that.
func TestAccusedSheets(t *testing.T) {
	isTrue, isFalse := 0, 0
	some(t, 60, func(p *player) {
		l, is, e := p.y.Accused(0)
		if e != api.OK {
			return
		}
		bare, _ := p.naive(0).bare()
		alone := func(l []int) api.Errno {
			s := bare
			s.Sights = slices.DeleteFunc(slices.Clone(s.Sights), func(x api.Sight) bool { return !slices.Contains(l, x.No) })
			_, e := basin.Greatest(s)
			return e
		}
		if !is {
			isFalse++
			if _, e := basin.Greatest(bare); e != api.OK || len(l) > 0 {
				t.Error("nobody is accused", l, e)
			}
			return
		}
		isTrue++
		if alone(l) != api.ErrClash {
			t.Error("they can all be true", l)
		}
		for i := range l {
			if alone(slices.Delete(slices.Clone(l), i, i+1)) != api.OK {
				t.Error("one can be left out", l, i)
			}
		}
	})
	if isTrue < 3 || isFalse < 3 {
		t.Error("too few of a kind", isTrue, isFalse)
	}
}

// P10.8, P0.4: nothing breaks on tracks that are open; a trip goes over such ones alone.
func TestNobodyOverASlopeThatBreaks(t *testing.T) {
	trips, closed := 0, 0
	some(t, 40, func(p *player) {
		for _, form := range []string{"site 7 1 0", "site 8 2 1", "track 20 7 8 60 1 60", "track 21 7 8 90 2 60", "track 22 8 7 300 0 0", "track 23 7 8 50 9 60"} {
			p.write(0, form)
		}
		open, e := p.y.Open(0)
		scenes, e2 := p.y.Scenes(0)
		region, e3 := p.y.Range(0)
		if e != api.OK || e2 != api.OK || e3 != api.OK || !slices.ContainsFunc(region.Sites, func(s api.Site) bool { return s.No == 8 }) {
			return
		}
		for _, track := range region.Tracks {
			if !slices.Contains(open, track.No) {
				closed++
				continue
			}
			for _, s := range scenes {
				bears(t, s, track, p.day)
			}
		}
		for _, s := range scenes {
			trip, is, e := crew.Trip(region, s, api.Crew{Hut: 7}, p.day, []int{8})
			if e != api.OK || !is {
				t.Fatal(trip, is, e)
			}
			trips++
			for _, no := range trip {
				i := slices.IndexFunc(region.Tracks, func(t api.Track) bool { return t.No == no })
				bears(t, s, region.Tracks[i], p.day)
			}
		}
	})
	if trips < 5 || closed < 5 {
		t.Error("too few of a kind", trips, closed)
	}
}

// bears checks that no field of a scene breaks on a track.
func bears(t *testing.T, s api.Scene, track api.Track, day int) {
	t.Helper()
	if track.Steep <= 25 {
		return
	}
	x, e := basin.Cell(s, track.Cell, day)
	if is, e2 := crew.Breaks(x.Hi, track.Steep); e != api.OK || e2 != api.OK || is {
		t.Error("it breaks on", track, x, e, e2)
	}
}

// P10.9, P0.5: what is promised can be taken together, whatever comes beyond the supplies; a right that is promised less than it claims is promised as much as elder ones leave.
func TestPromised(t *testing.T) {
	n := 0
	some(t, 40, func(p *player) {
		for right := range 4 {
			p.write(0, fmt.Sprint("grant ", 10+right, " ", p.day-right, " 1 5 ", p.day, " ", p.day+1+right%2, " ", between(p.r, 100, 900)))
		}
		p.tell(0, 5, p.day+2)
		p.tell(0, 5, p.day+1)
		s, e := p.y.Share(0)
		if e != api.OK || len(s.Supplies) == 0 {
			return
		}
		n++
		volumes, e := share.Promise(s)
		if e != api.OK {
			t.Fatal(e)
		}
		out := make([]string, len(volumes))
		for i, v := range volumes {
			out[i] = fmt.Sprint(s.Rights[i].No, " ", v)
		}
		want(t, p.y, "promise 0", strings.Join(out, "\n"))
		for range 5 {
			canTake(t, s, volumes, true)
			for i := range s.Supplies {
				s.Supplies[i].Volume += p.r.Intn(50)
			}
		}
		s, _ = p.y.Share(0)
		for i := range volumes {
			// With nothing for younger ones, it can have no more.
			more := slices.Clone(volumes)
			clear(more[i+1:])
			more[i]++
			if more[i] <= s.Rights[i].Claim {
				canTake(t, s, more, false)
			}
		}
	})
	if n < 5 {
		t.Error("too few shares", n)
	}
}

func canTake(t *testing.T, s api.Share, volumes []int, should bool) {
	t.Helper()
	if is, e := share.Enough(s, volumes); e != api.OK || is != should {
		t.Error(s, volumes, is, e)
	}
}

// P10.6, P0.2: what an office hears on a day narrows what it tells, unless it says why.
func TestNarrowed(t *testing.T) {
	narrowed, named, anew := 0, 0, 0
	for seed := range 25 {
		r := rand.New(rand.NewSource(int64(2000 + seed)))
		p := newPlayer(t, r, 2)
		p.start()
		p.send(0, 1, "0")
		for range 45 {
			p.write(r.Intn(2), someForm(r, p.day))
			p.send(0, 1, someNoise(r))
			p.tell(1, 5, p.day+1)
		}
		l, e := p.y.Told(1)
		if e != api.OK {
			t.Fatal(e)
		}
		for i, b := range l {
			if i == 0 {
				continue
			}
			a := l[i-1]
			switch {
			case b.Anew:
				anew++
			case len(b.Named) > 0:
				named++
			case b.Lo < a.Lo || b.Hi > a.Hi:
				t.Error(b, "is wider than", a)
			case b.Lo != a.Lo || b.Hi != a.Hi:
				narrowed++
			}
			for _, no := range b.Named {
				if !slices.Contains(a.Rests, no) {
					t.Error(b, "names what was not in", a)
				}
			}
		}
	}
	if narrowed < 5 || named < 5 || anew < 5 {
		t.Error("too few of a kind", narrowed, named, anew)
	}
}

// P0.2: a further test, sheet, entry of a log or weather never widens the bounds of a cell, as long as all sheets count that did.
func TestFurtherForms(t *testing.T) {
	times := map[string]int{}
	some(t, 40, func(p *player) {
		for range 10 {
			form := someForm(p.r, p.day)
			kind := saidOf("0 " + form).word
			if !slices.Contains([]string{"test", "course", "shown", "weather"}, kind) {
				continue
			}
			before, e := p.y.Cell(0, 1, p.day)
			then, _ := p.naive(0).counting()
			p.write(0, form)
			after, e2 := p.y.Cell(0, 1, p.day)
			now, _ := p.naive(0).counting()
			isDropped := func(s api.Sheet) bool { return !strings.Contains(fmt.Sprint(now), fmt.Sprint(s)) }
			if e != api.OK || e2 != api.OK || slices.ContainsFunc(then, isDropped) {
				continue
			}
			times[kind]++
			if after.Lo < before.Lo || after.Hi > before.Hi {
				t.Error(form, "widens", before, after)
			}
		}
	})
	if times["test"] < 5 || times["course"] < 5 || times["shown"] < 5 || times["weather"] < 5 {
		t.Error("too few of a kind", times)
	}
}

// P10.10: whatever happens to the power, what was written with OK is there.
func TestNothingIsLost(t *testing.T) {
	survived := 0
	for seed := range 60 {
		r := rand.New(rand.NewSource(int64(seed)))
		y := begun(t, "begin 2", "day 20")
		var written [2][]api.Entry
		for range 12 {
			o := r.Intn(2)
			do(t, y, fmt.Sprint("crash ", o, " ", between(r, 1, 60)))
			var pending []api.Entry
			for range 6 {
				form := someForm(r, 20)
				m := api.Entry{Office: o, No: len(written[o]), Body: "20 " + form}
				s, e := y.Do(fmt.Sprint("write ", o, " ", form))
				if e == api.OK && s == fmt.Sprint(o, ".", m.No) {
					written[o] = append(written[o], m)
				} else if e == api.ErrDown {
					pending = append(pending, m)
				} else if e != api.ErrNotNow {
					t.Fatal(form, s, e)
				}
			}
			y.Do(fmt.Sprintf("send %d %d %s", o, 1-o, someNoise(r)))
			do(t, y, fmt.Sprint("open ", o, " ", someNoise(r)))
			tally, e := y.Tally(o)
			if e != api.OK {
				t.Fatal(e)
			}
			// What was not answered with OK may be there as well.
			if tally.Have[o] == len(written[o])+len(pending) {
				survived += len(pending)
				written[o] = append(written[o], pending...)
			}
			if sum, _ := radio.Sum(written[o]); tally.Have[o] != len(written[o]) || sum != tally.Sums[o] {
				t.Fatal("not what was written", tally, written[o])
			}
		}
	}
	if survived == 0 {
		t.Error("nothing has survived that was not answered with OK")
	}
}
