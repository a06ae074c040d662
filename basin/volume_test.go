package basin_test

import (
	"math"
	"math/rand"
	"slices"
	"testing"

	"snowline/api"
	"snowline/basin"
)

// P5.5: the chapter's examples.
func TestVolumes(t *testing.T) {
	if x, e := basin.Valley(sample(), []int{1, 2}, 5); x != (api.Span{Lo: 6000, Hi: 8900}) || e != api.OK {
		t.Errorf("Valley returns %v, %d", x, e)
	}
	if x, e := basin.Valley(later(), []int{2}, 6); x != (api.Span{Lo: 3000, Hi: 6400}) || e != api.OK {
		t.Errorf("Valley of a cell returns %v, %d", x, e)
	}
	if x, e := basin.Lost(later(), []int{1}, 5, 6); x != (api.Span{Lo: 200, Hi: 500}) || e != api.OK {
		t.Errorf("Lost of a cell returns %v, %d", x, e)
	}
	if x, e := basin.Lost(later(), []int{1, 2}, 5, 6); x != (api.Span{Lo: 200, Hi: 2500}) || e != api.OK {
		t.Errorf("Lost returns %v, %d", x, e)
	}
	flow := make([]int, 18)
	flow[15], flow[17] = 10, 20
	for volume, want := range map[int]api.Errno{2500: api.OK, 2501: api.OK, math.MaxInt: api.OK, 2499: api.ErrProof, -1: api.ErrProof, math.MinInt: api.ErrProof} {
		if e := basin.CheckLost(later(), []int{1, 2}, 5, 6, volume, true, flow); e != want {
			t.Errorf("CheckLost of at most %d returns %d", volume, e)
		}
	}
	if e := basin.CheckLost(later(), []int{1, 2}, 5, 6, -99, false, flow); e != api.ErrProof {
		t.Errorf("CheckLost of at least a volume, by the flow of the greatest one, returns %d", e)
	}
	if e := basin.CheckLost(later(), []int{1}, 5, 6, 2500, true, flow); e != api.ErrProof {
		t.Errorf("CheckLost by the flow of more cells returns %d", e)
	}
	flow = make([]int, 18)
	flow[14], flow[16] = 10, 20 // The changes are at most -20 and 0.
	for volume, want := range map[int]api.Errno{200: api.OK, 199: api.OK, -1: api.OK, math.MinInt: api.OK, math.MinInt + 1: api.OK, 201: api.ErrProof, math.MaxInt: api.ErrProof} {
		if e := basin.CheckLost(later(), []int{1, 2}, 5, 6, volume, false, flow); e != want {
			t.Errorf("CheckLost of at least %d returns %d", volume, e)
		}
	}
	for _, l := range [][]int{nil, flow[1:], append(slices.Clone(flow), 0), spoilt(flow, -1), spoilt(flow, 1<<20+1), spoilt(flow, math.MinInt), spoilt(flow, math.MaxInt)} {
		for _, most := range []bool{true, false} {
			if e := basin.CheckLost(later(), []int{1, 2}, 5, 6, 0, most, l); e != api.ErrArg {
				t.Errorf("CheckLost by %v returns %d", l, e)
			}
		}
	}
	if e := basin.CheckLost(later(), []int{1, 2}, 5, 6, 0, false, spoilt(flow, 1<<20)); e != api.ErrProof {
		t.Errorf("CheckLost by the greatest element there can be returns %d", e)
	}
}

// spoilt returns l with x as its first element.
func spoilt(l []int, x int) []int {
	l = slices.Clone(l)
	l[0] = x
	return l
}

// P5.5
func TestLostWithoutField(t *testing.T) {
	s := noWay()
	for _, most := range []bool{true, false} {
		if flow, f, e := basin.LostProof(s, []int{1}, 5, 6, most); flow != nil || f != nil || e != api.ErrClash {
			t.Errorf("LostProof returns %v, %v, %d", flow, f, e)
		}
	}
	// Whether a field is allowed does not matter to the check: the cell 1 loses from 20 to 50, and at most 10.
	flow := make([]int, 20)
	flow[14] = 10
	if e := basin.CheckLost(s, []int{1}, 5, 6, 200, false, flow); e != api.OK {
		t.Errorf("CheckLost where no field is allowed returns %d", e)
	}
	flow[14], flow[19] = 0, 10
	if e := basin.CheckLost(s, []int{1}, 5, 6, 100, true, flow); e != api.OK {
		t.Errorf("CheckLost where no field is allowed returns %d", e)
	}
}

// lostProved fails unless what LostProof returns attains and proves a bound of the volume lost.
func lostProved(t *testing.T, s api.Scene, cells []int, from, to int, x api.Span) {
	t.Helper()
	for _, most := range []bool{true, false} {
		volume, narrower := x.Lo, x.Lo+1
		if most {
			volume, narrower = x.Hi, x.Hi-1
		}
		flow, f, e := basin.LostProof(s, cells, from, to, most)
		if e != api.OK || !allows(s, f) || basin.CheckField(s, f) != api.OK {
			t.Fatalf("%v: LostProof returns %v, %d", s, f, e)
		}
		if lost := volumeOf(s, f, cells, from) - volumeOf(s, f, cells, to); lost != volume {
			t.Fatalf("%v: LostProof returns a field that loses %d, not %d", s, lost, volume)
		}
		if e := basin.CheckLost(s, cells, from, to, volume, most, flow); e != api.OK || !flowProves(s, cells, from, to, volume, most, flow) {
			t.Fatalf("%v: CheckLost of %d, most %v by %v returns %d", s, volume, most, flow, e)
		}
		if e := basin.CheckLost(s, cells, from, to, narrower, most, flow); e != api.ErrProof {
			t.Fatalf("%v: CheckLost of %d, most %v by %v returns %d", s, narrower, most, flow, e)
		}
	}
}

// flowProves reports, by the definition, whether a flow proves that cells lose at most, or at least, so much.
func flowProves(s api.Scene, cells []int, from, to, volume int, most bool, flow []int) bool {
	comes := map[[2]int]int{}
	cost := 0
	for i, x := range bounds(s) {
		comes[[2]int{x.to, x.toDay}] += flow[i]
		comes[[2]int{x.from, x.fromDay}] -= flow[i]
		cost += flow[i] * x.most
	}
	for c, cell := range s.Basin.Cells {
		for d, day := range s.Days {
			weight := 0
			if slices.Contains(cells, cell.No) && day == from {
				weight = cell.Area
			}
			if slices.Contains(cells, cell.No) && day == to {
				weight = -cell.Area
			}
			if !most {
				weight = -weight
			}
			if comes[[2]int{c, d}] != weight {
				return false
			}
		}
	}
	return most && cost <= volume || !most && cost <= -volume
}

// P5.5, P5.8, P5.9, P5.12: small scenes, with all their fields.
func TestVolumesByTrying(t *testing.T) {
	r := rand.New(rand.NewSource(8))
	lost := 0
	for range 1200 {
		s := small(r)
		all := tried(s)
		cells := someCells(r, s)
		day := s.Days[r.Intn(len(s.Days))]
		x, e := basin.Valley(s, cells, day)
		if !isClash(t, s, all, e) {
			if want := spanOf(all, func(f [][]int) int { return volumeOf(s, f, cells, day) }); x != want {
				t.Fatalf("%v: Valley of %v on %d returns %v, not %v", s, cells, day, x, want)
			}
		}
		if len(s.Days) < 2 {
			continue
		}
		first := r.Intn(len(s.Days) - 1)
		from, to := s.Days[first], s.Days[first+1+r.Intn(len(s.Days)-first-1)]
		y, e := basin.Lost(s, cells, from, to)
		if isClash(t, s, all, e) {
			continue
		}
		lost++
		want := spanOf(all, func(f [][]int) int { return volumeOf(s, f, cells, from) - volumeOf(s, f, cells, to) })
		if y != want {
			t.Fatalf("%v: Lost of %v from %d to %d returns %v, not %v", s, cells, from, to, y, want)
		}
		lostProved(t, s, cells, from, to, y)
		a, _ := basin.Valley(s, cells, from)
		b, _ := basin.Valley(s, cells, to)
		if y.Hi > a.Hi-b.Lo || y.Lo < a.Lo-b.Hi {
			t.Fatalf("%v: Lost returns %v, and the volumes are %v and %v", s, y, a, b)
		}
	}
	if lost < 300 {
		t.Errorf("only %d times was something lost", lost)
	}
}

// P5.5: flows that are near those that prove something.
func TestCheckLost(t *testing.T) {
	r := rand.New(rand.NewSource(9))
	accepted := 0
	for range 1500 {
		s := small(r)
		if len(s.Days) < 2 {
			continue
		}
		cells, most := someCells(r, s), r.Intn(2) == 0
		from, to := s.Days[0], s.Days[1]
		flow, _, e := basin.LostProof(s, cells, from, to, most)
		if e != api.OK {
			continue
		}
		if r.Intn(2) == 0 {
			flow[r.Intn(len(flow))]++
			i := r.Intn(len(flow))
			flow[i] = max(0, flow[i]-1)
		}
		if r.Intn(4) == 0 {
			cells = someCells(r, s)
		}
		for volume := -12; volume <= 12; volume++ {
			is := flowProves(s, cells, from, to, volume, most, flow)
			if e := basin.CheckLost(s, cells, from, to, volume, most, flow); is != (e == api.OK) || !is && e != api.ErrProof {
				t.Fatalf("%v: CheckLost of %d, most %v by %v returns %d", s, volume, most, flow, e)
			}
			if is {
				accepted++
			}
		}
	}
	if accepted < 1000 {
		t.Errorf("only %d flows were accepted", accepted)
	}
}

// P5.5, P5.8, P5.9: scenes of the greatest size.
func TestLargeVolumes(t *testing.T) {
	r := rand.New(rand.NewSource(10))
	for range 3 {
		s, f := large(r)
		cells := someCells(r, s)
		for range 3 {
			first := r.Intn(len(s.Days) - 1)
			from, to := s.Days[first], s.Days[first+1+r.Intn(len(s.Days)-first-1)]
			x, e := basin.Lost(s, cells, from, to)
			a, g := basin.Valley(s, cells, from)
			b, h := basin.Valley(s, cells, to)
			if e != api.OK || g != api.OK || h != api.OK {
				t.Fatalf("Lost returns %d, Valley %d and %d", e, g, h)
			}
			v, w := volumeOf(s, f, cells, from), volumeOf(s, f, cells, to)
			if v < a.Lo || v > a.Hi || w < b.Lo || w > b.Hi || v-w < x.Lo || v-w > x.Hi || x.Hi > a.Hi-b.Lo {
				t.Fatalf("volumes of %d and %d, and %v, %v and %v are returned", v, w, a, b, x)
			}
			lostProved(t, s, cells, from, to, x)
		}
	}
}
