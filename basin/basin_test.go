package basin_test

import (
	"math"
	"slices"
	"testing"

	"snowline/api"
	"snowline/basin"
)

// spoiling is something that is done to a scene, and the error that its check is to return then.
type spoiling struct {
	name  string
	spoil func(s *api.Scene)
	want  api.Errno
}

// outside returns integers that are not from 0 to most.
func outside(most int) []int { return []int{-1, most + 1, math.MinInt, math.MaxInt} }

// spoilings returns what makes the scene `later` invalid.
func spoilings() []spoiling {
	var l []spoiling
	add := func(name string, want api.Errno, spoil func(s *api.Scene)) {
		l = append(l, spoiling{name, spoil, want})
	}
	add("no cells", api.ErrBasin, func(s *api.Scene) { s.Basin.Cells, s.Basin.Pairs = nil, nil })
	add("too many cells", api.ErrBasin, func(s *api.Scene) { s.Basin = chain(13, 0) })
	add("the same cell twice", api.ErrBasin, func(s *api.Scene) { s.Basin.Cells[1].No = 1 })
	add("cells not in order", api.ErrBasin, func(s *api.Scene) { s.Basin.Cells[1].No = 0 })
	for _, x := range outside(4095) {
		add("a number of a cell", api.ErrBasin, func(s *api.Scene) { s.Basin.Cells[0].No = x })
		add("a number of a cell", api.ErrBasin, func(s *api.Scene) { s.Basin.Cells[1].No = x })
	}
	for _, x := range outside(9000) {
		add("a height", api.ErrBasin, func(s *api.Scene) { s.Basin.Cells[1].Height, s.Basin.Pairs = x, nil })
	}
	for _, x := range outside(7) {
		add("an aspect", api.ErrBasin, func(s *api.Scene) { s.Basin.Cells[1].Aspect = x })
	}
	for _, x := range append(outside(4096), 0) {
		add("an area", api.ErrBasin, func(s *api.Scene) { s.Basin.Cells[0].Area = x })
	}
	for _, x := range outside(65536) {
		add("Gain", api.ErrBasin, func(s *api.Scene) { s.Basin.Gain = x })
		add("Slack", api.ErrBasin, func(s *api.Scene) { s.Basin.Slack = x })
		add("Deep", api.ErrBasin, func(s *api.Scene) { s.Basin.Deep = x })
	}
	for _, x := range outside(1) {
		add("the first cell of a pair", api.ErrBasin, func(s *api.Scene) { s.Basin.Pairs[0][0] = x })
		add("the second cell of a pair", api.ErrBasin, func(s *api.Scene) { s.Basin.Pairs[0][1] = x })
	}
	add("a pair of a cell and itself", api.ErrBasin, func(s *api.Scene) { s.Basin.Pairs[0] = [2]int{1, 1} })
	add("a pair downwards", api.ErrBasin, func(s *api.Scene) { s.Basin.Pairs[0] = [2]int{1, 0} })
	add("a pair twice", api.ErrBasin, func(s *api.Scene) { s.Basin.Pairs = [][2]int{{0, 1}, {0, 1}} })
	add("a pair both ways round", api.ErrBasin, func(s *api.Scene) {
		s.Basin.Cells[1].Height, s.Basin.Pairs = 1000, [][2]int{{0, 1}, {1, 0}}
	})
	add("too many pairs", api.ErrBasin, func(s *api.Scene) { s.Basin = chain(12, 25) })
	add("no days", api.ErrArg, func(s *api.Scene) { s.Days = nil })
	add("a day twice", api.ErrArg, func(s *api.Scene) { s.Days = []int{5, 6, 6} })
	add("days not in order", api.ErrArg, func(s *api.Scene) { s.Days = []int{6, 5} })
	add("a day below 0", api.ErrArg, func(s *api.Scene) { s.Days = []int{-1, 5, 6} })
	add("a day that is too late", api.ErrArg, func(s *api.Scene) { s.Days = []int{5, 6, 1048577} })
	add("days far away", api.ErrArg, func(s *api.Scene) { s.Days = []int{math.MinInt, 5, 6, math.MaxInt} })
	add("too many days", api.ErrArg, func(s *api.Scene) { s.Days = days(17) })
	add("too many sights", api.ErrLimit, func(s *api.Scene) { s.Sights = slices.Repeat(s.Sights, 257) })
	add("too many changes", api.ErrLimit, func(s *api.Scene) { s.Changes = slices.Repeat(s.Changes[:1], 257) })
	for _, x := range outside(8191) {
		add("a number of a sight", api.ErrSight, func(s *api.Scene) { s.Sights[0].No = x })
	}
	for _, x := range []int{0, 3, -1, math.MinInt, math.MaxInt} {
		add("a cell of a sight", api.ErrSight, func(s *api.Scene) { s.Sights[0].Cell = x })
		add("a cell of a change", api.ErrChange, func(s *api.Scene) { s.Changes[1].Cell = x })
	}
	for _, x := range []int{4, 7, -5, math.MinInt, math.MaxInt} {
		add("a day of a sight", api.ErrSight, func(s *api.Scene) { s.Sights[0].Day = x })
		add("the first day of a change", api.ErrChange, func(s *api.Scene) { s.Changes[1].From = x })
		add("the second day of a change", api.ErrChange, func(s *api.Scene) { s.Changes[1].To = x })
	}
	for _, x := range []api.Span{{Lo: -1, Hi: 5}, {Lo: 5, Hi: 4}, {Lo: 5, Hi: 65537}, {Lo: math.MinInt, Hi: math.MaxInt}} {
		add("a span of a sight", api.ErrSight, func(s *api.Scene) { s.Sights[0].Lo, s.Sights[0].Hi = x.Lo, x.Hi })
	}
	for _, x := range []api.Span{{Lo: -65537, Hi: 5}, {Lo: 5, Hi: 4}, {Lo: 5, Hi: 65537}, {Lo: math.MinInt, Hi: math.MaxInt}} {
		add("a span of a change", api.ErrChange, func(s *api.Scene) { s.Changes[1].Lo, s.Changes[1].Hi = x.Lo, x.Hi })
	}
	add("a change within a day", api.ErrChange, func(s *api.Scene) { s.Changes[1].To = 5 })
	add("a change backwards", api.ErrChange, func(s *api.Scene) { s.Changes[0].From, s.Changes[0].To = 6, 5 })
	return l
}

// chain returns a basin with so many cells, each higher than the one before it, and so many pairs.
func chain(cells, pairs int) api.Basin {
	var b api.Basin
	for i := range cells {
		b.Cells = append(b.Cells, api.Cell{No: i, Height: i, Aspect: i % 2, Area: 1})
		for j := range i {
			if len(b.Pairs) < pairs {
				b.Pairs = append(b.Pairs, [2]int{j, i})
			}
		}
	}
	return b
}

// days returns the days from 0 on, so many.
func days(count int) []int {
	var l []int
	for i := range count {
		l = append(l, i)
	}
	return l
}

// widest returns scenes whose parts are as great, as many or as few as they can be.
func widest() []api.Scene {
	deep := api.Scene{
		Basin: api.Basin{Cells: []api.Cell{{No: 0, Area: 4096}, {No: 4095, Height: 9000, Aspect: 7, Area: 1}}, Gain: 65536, Slack: 65536, Deep: 65536, Pairs: [][2]int{{0, 1}}},
		Days:  []int{0, 1048576},
		Sights: []api.Sight{
			{No: 0, Cell: 0, Day: 0, Lo: 0, Hi: 65536}, {No: 8191, Cell: 4095, Day: 1048576, Lo: 65536, Hi: 65536}, {No: 0, Cell: 4095, Day: 0, Lo: 0, Hi: 0},
		},
		Changes: []api.Change{{Cell: 0, From: 0, To: 1048576, Lo: -65536, Hi: 65536}, {Cell: 0, From: 0, To: 1048576, Lo: 65536, Hi: 65536}, {Cell: 4095, From: 0, To: 1048576, Lo: -65536, Hi: -65536}},
	}
	full := api.Scene{Basin: chain(12, 24), Days: days(16)}
	full.Sights = slices.Repeat([]api.Sight{{No: 3, Cell: 11, Day: 15, Hi: 9}}, 256)
	full.Changes = slices.Repeat([]api.Change{{Cell: 11, From: 0, To: 15, Hi: 9}}, 256)
	level := api.Scene{Basin: api.Basin{Cells: []api.Cell{{Area: 1}, {No: 1, Area: 1}, {No: 2, Area: 1}}, Pairs: [][2]int{{1, 0}, {1, 2}}}, Days: []int{9}}
	return []api.Scene{sample(), later(), clashing(), noWay(), deep, full, level, {Basin: chain(1, 0), Days: []int{0}}, {Basin: chain(2, 0), Days: []int{1048576}, Sights: []api.Sight{}}}
}

// P5.1
func TestCheck(t *testing.T) {
	for _, s := range widest() {
		checked(t, s)
		if e := basin.CheckBasin(s.Basin); e != api.OK {
			t.Errorf("CheckBasin of %v returns %d", s.Basin, e)
		}
	}
	for _, x := range spoilings() {
		s := later()
		x.spoil(&s)
		if e := basin.Check(s); e != x.want {
			t.Errorf("%s: Check returns %d, not %d", x.name, e, x.want)
		}
		ofBasin := api.OK
		if x.want == api.ErrBasin {
			ofBasin = api.ErrBasin
		}
		if e := basin.CheckBasin(s.Basin); e != ofBasin {
			t.Errorf("%s: CheckBasin returns %d, not %d", x.name, e, ofBasin)
		}
	}
	if e := basin.CheckBasin(api.Basin{}); e != api.ErrBasin {
		t.Errorf("CheckBasin of a basin without cells returns %d", e)
	}
}

// P5.1: of several errors, the one that the section names first.
func TestFirstError(t *testing.T) {
	all := spoilings()
	rank := []api.Errno{api.ErrBasin, api.ErrArg, api.ErrLimit, api.ErrSight, api.ErrChange}
	for _, x := range all {
		for _, y := range all {
			if slices.Index(rank, x.want) >= slices.Index(rank, y.want) || y.want == api.ErrLimit || x.want == api.ErrBasin && y.want == api.ErrBasin {
				continue
			}
			s := later()
			y.spoil(&s)
			x.spoil(&s)
			if e := basin.Check(s); e != x.want {
				t.Fatalf("%s, %s: Check returns %d, not %d", x.name, y.name, e, x.want)
			}
		}
	}
	s := later()
	s.Sights[0].Lo = -1
	s.Changes = slices.Repeat(s.Changes[:1], 257)
	if e := basin.Check(s); e != api.ErrLimit {
		t.Errorf("too many changes, and a sight that is not valid: Check returns %d", e)
	}
	s.Days = nil
	if e := basin.Check(s); e != api.ErrArg {
		t.Errorf("no days, and too many changes: Check returns %d", e)
	}
	s.Basin.Deep = -1
	if e := basin.Check(s); e != api.ErrBasin {
		t.Errorf("a basin that is not valid, and no days: Check returns %d", e)
	}
}

// P5.1
func TestLike(t *testing.T) {
	for a := range 8 {
		for b := range 8 {
			want := a == b || (a+1)%8 == b || (b+1)%8 == a
			is, e := basin.Like(api.Cell{No: 3, Aspect: a, Area: 1}, api.Cell{No: 3, Height: 9000, Aspect: b, Area: 9})
			if is != want || e != api.OK {
				t.Errorf("Like of the aspects %d and %d returns %v, %d", a, b, is, e)
			}
		}
	}
	good := api.Cell{No: 1, Area: 1}
	for _, bad := range []api.Cell{{}, {No: -1, Area: 1}, {No: 4096, Area: 1}, {Height: -1, Area: 1}, {Height: 9001, Area: 1}, {Aspect: -1, Area: 1}, {Aspect: 8, Area: 1}, {Aspect: math.MinInt, Area: 1}, {Area: 4097}} {
		for _, x := range [][2]api.Cell{{bad, good}, {good, bad}, {bad, bad}} {
			if is, e := basin.Like(x[0], x[1]); is || e != api.ErrBasin {
				t.Errorf("Like of %v and %v returns %v, %d", x[0], x[1], is, e)
			}
		}
	}
}

// P5.1
func TestMore(t *testing.T) {
	b := api.Basin{
		Cells: []api.Cell{{No: 1, Height: 1000, Aspect: 7, Area: 1}, {No: 2, Height: 1000, Aspect: 0, Area: 1}, {No: 3, Height: 1039, Aspect: 6, Area: 1}, {No: 4, Height: 9000, Aspect: 0, Area: 1}, {No: 5, Area: 1}},
		Pairs: [][2]int{{1, 0}, {0, 2}, {1, 2}, {1, 3}, {4, 3}}, Gain: 5, Slack: 7,
	}
	for pair, x := range []struct {
		more int
		is   bool
	}{{7, true}, {8, true}, {0, false}, {407, true}, {457, true}} { // 5 * 39 / 100 is 1.95
		if more, is, e := basin.More(b, pair); more != x.more || is != x.is || e != api.OK {
			t.Errorf("More of the pair %d returns %d, %v, %d", pair, more, is, e)
		}
	}
	b.Gain, b.Slack = 65536, 65536
	if more, is, e := basin.More(b, 4); more != 65536+65536*90 || !is || e != api.OK {
		t.Errorf("More of the greatest laws returns %d, %v, %d", more, is, e)
	}
	for _, pair := range []int{-1, 5, math.MinInt, math.MaxInt} {
		if more, is, e := basin.More(b, pair); more != 0 || is || e != api.ErrArg {
			t.Errorf("More of the pair %d returns %d, %v, %d", pair, more, is, e)
		}
	}
	for _, x := range spoilings() {
		s := later()
		x.spoil(&s)
		if x.want != api.ErrBasin {
			continue
		}
		for _, pair := range []int{0, 99} {
			if more, is, e := basin.More(s.Basin, pair); more != 0 || is || e != api.ErrBasin {
				t.Errorf("%s: More returns %d, %v, %d", x.name, more, is, e)
			}
		}
	}
}
