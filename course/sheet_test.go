package course_test

import (
	"math"
	"math/big"
	"math/rand"
	"slices"
	"testing"

	"snowline/api"
	"snowline/course"
)

// sheetOf returns a sheet of the scale 0 of day 10, with the stakes.
func sheetOf(l ...api.Stake) api.Sheet {
	return api.Sheet{No: 1, Cell: 2, Day: 10, Known: 11, Mouth: 10, Empty: 100, EmptyDay: 10, Stakes: l}
}

// plain is the stake of the chapter's example.
func plain() api.Stake { return api.Stake{Depth: 300, Core: 200, Full: 1155, Lost: 40, Soil: 5} }

// P1.3
func TestCheckSheet(t *testing.T) {
	for i, change := range []func(s *api.Sheet){
		func(s *api.Sheet) {},
		func(s *api.Sheet) { s.No, s.Cell, s.Scale = 0, 0, 0 },
		func(s *api.Sheet) { s.No, s.Cell, s.Scale = api.MaxNo, api.MaxNo, api.MaxNo },
		func(s *api.Sheet) { s.Day, s.Known, s.EmptyDay = 0, 0, 0 },
		func(s *api.Sheet) { s.Day, s.Known, s.EmptyDay = api.MaxDay, api.MaxDay, api.MaxDay },
		func(s *api.Sheet) { s.Mouth, s.Empty = 1, 0 },
		func(s *api.Sheet) { s.Mouth, s.Empty = api.MaxMouth, api.MaxGram },
		func(s *api.Sheet) { s.Stakes = make([]api.Stake, api.MaxStakes) },
		func(s *api.Sheet) { s.Stakes[0].Lost = 100 },
		func(s *api.Sheet) {
			s.Stakes[0] = api.Stake{Depth: api.MaxLength, Lost: api.MaxLength, Full: api.MaxGram, Soil: api.MaxGram}
		},
	} {
		s := sheetOf(plain())
		change(&s)
		if e := course.CheckSheet(s); e != api.OK {
			t.Error(i, e)
		}
	}
	for i, change := range []func(s *api.Sheet){
		func(s *api.Sheet) { s.No = -1 }, func(s *api.Sheet) { s.No = api.MaxNo + 1 },
		func(s *api.Sheet) { s.Cell = -1 }, func(s *api.Sheet) { s.Cell = api.MaxNo + 1 },
		func(s *api.Sheet) { s.Scale = -1 }, func(s *api.Sheet) { s.Scale = api.MaxNo + 1 },
		func(s *api.Sheet) { s.Day = -1 }, func(s *api.Sheet) { s.Day = api.MaxDay + 1 },
		func(s *api.Sheet) { s.Known = -1 }, func(s *api.Sheet) { s.Known = api.MaxDay + 1 },
		func(s *api.Sheet) { s.EmptyDay = -1 }, func(s *api.Sheet) { s.EmptyDay = api.MaxDay + 1 },
		func(s *api.Sheet) { s.Mouth = 0 }, func(s *api.Sheet) { s.Mouth = api.MaxMouth + 1 },
		func(s *api.Sheet) { s.Empty = -1 }, func(s *api.Sheet) { s.Empty = api.MaxGram + 1 },
		func(s *api.Sheet) { s.Stakes = nil }, func(s *api.Sheet) { s.Stakes = make([]api.Stake, api.MaxStakes+1) },
		func(s *api.Sheet) { s.Stakes[0] = api.Stake{Depth: -1} },
		func(s *api.Sheet) { s.Stakes[0].Depth = api.MaxLength + 1 },
		func(s *api.Sheet) { s.Stakes[0].Core = -1 }, func(s *api.Sheet) { s.Stakes[0].Core = 261 }, func(s *api.Sheet) { s.Stakes[0].Core = 301 },
		func(s *api.Sheet) { s.Stakes[0].Lost = -1 }, func(s *api.Sheet) { s.Stakes[0].Lost = 101 },
		func(s *api.Sheet) { s.Stakes[0].Core, s.Stakes[0].Lost = math.MaxInt, math.MaxInt },
		func(s *api.Sheet) { s.Stakes[0].Core, s.Stakes[0].Lost = math.MinInt, math.MinInt },
		func(s *api.Sheet) { s.Stakes[0].Full = -1 }, func(s *api.Sheet) { s.Stakes[0].Full = api.MaxGram + 1 },
		func(s *api.Sheet) { s.Stakes[0].Soil = -1 }, func(s *api.Sheet) { s.Stakes[0].Soil = api.MaxGram + 1 },
		func(s *api.Sheet) { s.Stakes = append(s.Stakes, api.Stake{Lost: 1}) },
	} {
		s := sheetOf(plain())
		change(&s)
		if e := course.CheckSheet(s); e != api.ErrSheet {
			t.Error(i, e)
		}
	}
}

// asked is what the four questions about a stake, or about its course, return.
type asked struct {
	core, water, density, course    api.Span
	eCore, eWater, eDensity, eWhole api.Errno
}

func ask(c api.Scale, s api.Sheet, stake, known int) asked {
	var a asked
	a.core, a.eCore = course.Core(c, s, stake, known)
	a.water, a.eWater = course.Water(c, s, stake, known)
	a.density, a.eDensity = course.Density(c, s, stake, known)
	a.course, a.eWhole = course.Course(c, s, known)
	return a
}

// P1.3: the example of the chapter, and tubes weighed on another day.
func TestSheetBounds(t *testing.T) {
	still := scaleOf(0, [4]int{10, 10, 0, 0})
	two := api.Scale{Rate: 2}
	tested := scaleOf(2, [4]int{8, 90, 5, 5}, [4]int{10, 90, 4, 4})
	// With the turn -4 to 4 the second core could weigh less than nothing: the turn is at most 1.
	moved := sheetOf(api.Stake{Depth: 100, Core: 100, Full: 150}, api.Stake{Depth: 100, Core: 100, Full: 101, Soil: 2})
	moved.EmptyDay = 8
	bare := sheetOf(api.Stake{Depth: 1, Lost: 1, Full: 100, Soil: 9})
	for i, x := range []struct {
		c            api.Scale
		s            api.Sheet
		stake, known int
		want         asked
	}{
		{still, sheetOf(plain()), 0, 10, asked{core: span(1050, 1055), water: span(107, 146), density: span(356, 485), course: span(107, 146)}},
		{still, sheetOf(plain(), api.Stake{Depth: 10, Full: 100}), 0, 10, asked{core: span(1050, 1055), water: span(107, 146), density: span(356, 485), course: span(53, 73)}},
		{two, moved, 0, 0, asked{core: span(49, 54), water: span(4, 6), density: span(49, 54), course: span(2, 3)}},
		{two, moved, 1, 0, asked{core: span(0, 5), water: span(0, 1), density: span(0, 5), course: span(2, 3)}},
		{tested, moved, 0, 90, asked{core: span(51, 51), water: span(5, 6), density: span(51, 51), course: span(2, 3)}},
		{tested, moved, 1, 90, asked{core: span(0, 2), water: span(0, 1), density: span(0, 2), course: span(2, 3)}},
		{tested, moved, 0, 89, asked{core: span(49, 54), water: span(4, 6), density: span(49, 54), course: span(2, 3)}},
		{still, bare, 0, 0, asked{water: span(0, 1), density: span(50, 1000), course: span(0, 1)}},
	} {
		if y := ask(x.c, x.s, x.stake, x.known); y != x.want {
			t.Error(i, y)
		}
	}
}

// P1.3: the errors, in their order.
func TestSheetErrors(t *testing.T) {
	apart := scaleOf(0, [4]int{1, 1, 0, 0}, [4]int{1, 1, 1, 1})
	light := sheetOf(api.Stake{Depth: 1, Full: 100}, api.Stake{Full: 99})
	other := sheetOf(plain())
	other.Scale = 1
	for i, x := range []struct {
		c                    api.Scale
		s                    api.Sheet
		stake, known         int
		core, density, whole api.Errno
	}{
		{api.Scale{No: -1}, api.Sheet{}, -1, -1, api.ErrScale, api.ErrScale, api.ErrScale},
		{apart, api.Sheet{}, -1, -1, api.ErrApart, api.ErrApart, api.ErrApart},
		{api.Scale{}, api.Sheet{}, -1, -1, api.ErrSheet, api.ErrSheet, api.ErrSheet},
		{api.Scale{}, sheetOf(plain()), 0, -1, api.ErrArg, api.ErrArg, api.ErrArg},
		{api.Scale{}, sheetOf(plain()), 0, api.MaxDay + 1, api.ErrArg, api.ErrArg, api.ErrArg},
		{api.Scale{}, sheetOf(plain()), 1, 0, api.ErrArg, api.ErrArg, api.OK},
		{api.Scale{}, sheetOf(plain()), -1, 0, api.ErrArg, api.ErrArg, api.OK},
		{api.Scale{}, sheetOf(plain()), math.MaxInt, 0, api.ErrArg, api.ErrArg, api.OK},
		{api.Scale{}, other, 0, 0, api.ErrArg, api.ErrArg, api.ErrArg},
		{api.Scale{No: 1}, sheetOf(plain()), 0, 0, api.ErrArg, api.ErrArg, api.ErrArg},
		{api.Scale{No: 1}, sheetOf(api.Stake{Full: 99}), 0, 0, api.ErrArg, api.ErrArg, api.ErrArg},
		{api.Scale{}, light, 0, 0, api.ErrApart, api.ErrApart, api.ErrApart},
		{api.Scale{}, light, 1, 0, api.ErrApart, api.ErrNone, api.ErrApart},
		{api.Scale{}, sheetOf(api.Stake{Full: 100}), 0, 0, api.OK, api.ErrNone, api.OK},
		{scaleOf(0, [4]int{10, 10, 0, 0}), sheetOf(api.Stake{Depth: 1, Full: 99}), 0, 10, api.ErrApart, api.ErrApart, api.ErrApart},
	} {
		y := ask(x.c, x.s, x.stake, x.known)
		if y.eCore != x.core || y.eWater != x.core || y.eDensity != x.density || y.eWhole != x.whole {
			t.Error(i, y)
		}
		if y.eCore != api.OK && (y.core != api.Span{} || y.water != api.Span{}) || y.eDensity != api.OK && y.density != (api.Span{}) || y.eWhole != api.OK && y.course != (api.Span{}) {
			t.Error(i, y)
		}
	}
}

// P1.3: the greatest values that valid sheets have.
func TestLargestSheet(t *testing.T) {
	c := scaleOf(1000, [4]int{0, 0, api.MaxGram, api.MaxGram}, [4]int{api.MaxDay, 0, -api.MaxGram, -api.MaxGram})
	s := api.Sheet{Mouth: 1, Day: api.MaxDay}
	for range api.MaxStakes {
		s.Stakes = append(s.Stakes, api.Stake{Depth: api.MaxLength, Lost: api.MaxLength, Full: api.MaxGram, Soil: api.MaxGram})
	}
	core, water := span(2*api.MaxGram, 3*api.MaxGram), span(2*api.MaxGram+1000, 3*api.MaxGram+20000)
	want := asked{core: core, water: water, density: span(water.Lo*1000/20000, (water.Hi*1000+19999)/20000), course: water}
	if y := ask(c, s, 31, 0); y != want {
		t.Error(y, want)
	}
}

// smallSheet is a random sheet whose days lie in the window.
func smallSheet(r *rand.Rand) api.Sheet {
	s := api.Sheet{Day: r.Intn(window), EmptyDay: r.Intn(window), Mouth: 1 + r.Intn(12), Empty: 5 + r.Intn(3)}
	for range 1 + r.Intn(3) {
		core, lost := r.Intn(30), r.Intn(30)
		s.Stakes = append(s.Stakes, api.Stake{Depth: core + lost + r.Intn(3), Core: core, Lost: lost, Full: 5 + r.Intn(12), Soil: r.Intn(4)})
	}
	return s
}

// extremes keeps the least and the greatest one of some fractions.
type extremes struct{ lo, hi *big.Rat }

func (x *extremes) see(y *big.Rat) {
	if x.lo == nil || y.Cmp(x.lo) < 0 {
		x.lo = y
	}
	if x.hi == nil || y.Cmp(x.hi) > 0 {
		x.hi = y
	}
}

// outward returns the extremes times a number, rounded down and up.
func (x *extremes) outward(times int64) api.Span {
	down := func(y *big.Rat) int {
		z := new(big.Rat).Mul(y, big.NewRat(times, 1))
		return int(new(big.Int).Div(z.Num(), z.Denom()).Int64()) // big.Int.Div rounds down, as denominators are above 0
	}
	return span(down(x.lo), -down(new(big.Rat).Neg(x.hi)))
}

// tried is what trying all turns and all amounts of soil tells of a stake, and of the course.
type tried struct {
	cores             []int
	water, mean, dens extremes
}

// try tries all turns of histories, and all amounts of soil for the stake; is reports whether s is possible.
func try(s api.Sheet, stake int, all [][]int) (tried, bool) {
	var y tried
	cores := map[int]bool{}
	for _, turn := range values(all, func(h []int) int { return h[s.Day] - h[s.EmptyDay] }) {
		if slices.ContainsFunc(s.Stakes, func(x api.Stake) bool { return x.Full-s.Empty-turn < 0 }) {
			continue
		}
		least, most := new(big.Rat), new(big.Rat)
		for i, x := range s.Stakes {
			var one extremes
			for soil := 0; soil <= x.Soil; soil++ {
				core := max(0, x.Full-s.Empty-turn-soil)
				one.see(big.NewRat(int64(20*core+x.Lost*s.Mouth), int64(20*s.Mouth)))
				one.see(big.NewRat(int64(core+x.Lost*s.Mouth), int64(s.Mouth)))
				if i == stake {
					cores[core] = true
				}
			}
			if i == stake {
				y.water.see(one.lo)
				y.water.see(one.hi)
			}
			least.Add(least, one.lo)
			most.Add(most, one.hi)
		}
		n := big.NewRat(1, int64(len(s.Stakes)))
		y.mean.see(least.Mul(least, n))
		y.mean.see(most.Mul(most, n))
	}
	for x := range cores {
		y.cores = append(y.cores, x)
	}
	slices.Sort(y.cores)
	if depth := s.Stakes[stake].Depth; depth > 0 && len(cores) > 0 {
		y.dens.see(new(big.Rat).Mul(y.water.lo, big.NewRat(1, int64(depth))))
		y.dens.see(new(big.Rat).Mul(y.water.hi, big.NewRat(1, int64(depth))))
	}
	return y, len(cores) > 0
}

// P1.3, P1.7, P1.9: the bounds are those that trying all turns finds, the same turn for all stakes, each rounded once.
func TestSheetsAsTried(t *testing.T) {
	seen := map[bool]int{}
	eachSmall(t, 400, func(r *rand.Rand, c api.Scale, known int, all [][]int) {
		s := smallSheet(r)
		stake := r.Intn(len(s.Stakes))
		got := ask(c, s, stake, known)
		y, is := try(s, stake, all)
		seen[is]++
		if !is {
			if got.eCore != api.ErrApart || got.eWater != api.ErrApart || got.eWhole != api.ErrApart {
				t.Fatal(c, s, known, got)
			}
			return
		}
		want := asked{core: span(y.cores[0], y.cores[len(y.cores)-1]), water: y.water.outward(1), course: y.mean.outward(1)}
		if s.Stakes[stake].Depth == 0 {
			want.eDensity = api.ErrNone
		} else {
			want.density = y.dens.outward(1000)
		}
		if got != want {
			t.Fatal(c, s, known, stake, got, want)
		}
	})
	if seen[true] < 100 || seen[false] < 20 {
		t.Error(seen)
	}
}

// P1.9: a number added to all weights with the tube changes nothing.
func TestShiftedWeights(t *testing.T) {
	eachSmall(t, 100, func(r *rand.Rand, c api.Scale, known int, _ [][]int) {
		s := smallSheet(r)
		moved := s
		moved.Stakes = slices.Clone(s.Stakes)
		more := r.Intn(api.MaxGram - 20)
		moved.Empty += more
		for i := range moved.Stakes {
			moved.Stakes[i].Full += more
		}
		if a, b := ask(c, s, 0, known), ask(c, moved, 0, known); a != b {
			t.Fatal(c, s, more, a, b)
		}
	})
}

// narrower reports whether b, which is asked when more is known, widens nothing in a.
func narrower(a, b asked) bool {
	for _, x := range []struct {
		a, b   api.Span
		ea, eb api.Errno
	}{{a.core, b.core, a.eCore, b.eCore}, {a.water, b.water, a.eWater, b.eWater}, {a.density, b.density, a.eDensity, b.eDensity}, {a.course, b.course, a.eWhole, b.eWhole}} {
		if x.ea != api.OK && x.eb != x.ea || x.eb != api.OK && x.eb != api.ErrApart && x.ea == api.OK {
			return false
		}
		if x.ea == api.OK && x.eb == api.OK && !within(x.a, x.b) {
			return false
		}
	}
	return true
}

// P1.8: a further test and a later day never widen what is told of a sheet.
func TestMoreIsKnownOfSheets(t *testing.T) {
	eachSmall(t, 300, func(r *rand.Rand, c api.Scale, known int, _ [][]int) {
		s := smallSheet(r)
		stake := r.Intn(len(s.Stakes))
		before := ask(c, s, stake, known)
		if after := ask(c, s, stake, known+r.Intn(5)); !narrower(before, after) {
			t.Fatal(c, s, before, after)
		}
		lo := c.Tests[0].Lo - 1 + r.Intn(3)
		further, e := course.AddTest(c, api.Test{Day: s.Day, Known: c.Tests[len(c.Tests)-1].Known, Lo: lo, Hi: lo})
		if e != api.OK {
			return
		}
		if after := ask(further, s, stake, api.MaxDay); !narrower(ask(c, s, stake, api.MaxDay), after) {
			t.Fatal(c, further, s, after)
		}
	})
}
