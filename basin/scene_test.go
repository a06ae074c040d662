package basin_test

import (
	"math"
	"reflect"
	"slices"
	"testing"

	"snowline/api"
	"snowline/basin"
)

// P5.1
func TestWith(t *testing.T) {
	x := api.Sight{No: 7, Cell: 2, Day: 6, Lo: 0, Hi: 65536}
	s, e := basin.With(later(), x)
	if e != api.OK || !reflect.DeepEqual(s, with(later(), x)) {
		t.Errorf("With returns %v, %d", s, e)
	}
	if s, e = basin.With(api.Scene{Basin: chain(1, 0), Days: []int{3}}, api.Sight{Day: 3}); e != api.OK || len(s.Sights) != 1 || s.Sights[0].Day != 3 {
		t.Errorf("With of the first sight returns %v, %d", s, e)
	}
	for _, x := range []api.Sight{
		{No: -1, Cell: 1, Day: 5}, {No: 8192, Cell: 1, Day: 5}, {Cell: 0, Day: 5}, {Cell: 1, Day: 4}, {Cell: 1, Day: 5, Lo: -1}, {Cell: 1, Day: 5, Lo: 2, Hi: 1}, {Cell: 1, Day: 5, Hi: 65537}, {Cell: math.MaxInt, Day: math.MinInt},
	} {
		if s, e := basin.With(later(), x); e != api.ErrSight || !reflect.DeepEqual(s, api.Scene{}) {
			t.Errorf("With of %v returns %v, %d", x, s, e)
		}
	}
	nearly, full := later(), later()
	nearly.Sights = slices.Repeat(nearly.Sights, 255)
	full.Sights = slices.Repeat(full.Sights, 256)
	if s, e := basin.With(nearly, x); e != api.OK || len(s.Sights) != 256 || s.Sights[255] != x || basin.Check(s) != api.OK {
		t.Errorf("With of the last sight there is room for: %d sights, %d", len(s.Sights), e)
	}
	for _, x := range []api.Sight{x, {No: -1}} {
		if s, e := basin.With(full, x); e != api.ErrLimit || !reflect.DeepEqual(s, api.Scene{}) {
			t.Errorf("With to all the sights there can be returns %v, %d", s, e)
		}
	}
	// Whether a field is allowed does not matter.
	if s, e := basin.With(noWay(), x); e != api.OK || len(s.Sights) != 2 {
		t.Errorf("With where no field is allowed returns %v, %d", s, e)
	}
}

// P5.1
func TestWithout(t *testing.T) {
	s := with(later(), api.Sight{No: 3, Cell: 2, Day: 6, Hi: 9}, api.Sight{No: 7, Cell: 2, Day: 6, Hi: 8}, api.Sight{No: 4, Cell: 2, Day: 6, Hi: 7}, api.Sight{No: 3, Cell: 1, Day: 5, Hi: 6})
	for _, x := range []struct {
		no   int
		left []int
	}{
		{7, []int{1, 3, 4}}, {3, []int{0, 2, 3}}, {4, []int{0, 1, 2, 4}}, {5, []int{0, 1, 2, 3, 4}}, {0, []int{0, 1, 2, 3, 4}}, {-1, []int{0, 1, 2, 3, 4}}, {math.MaxInt, []int{0, 1, 2, 3, 4}}, {math.MinInt, []int{0, 1, 2, 3, 4}},
	} {
		want := s
		want.Sights = nil
		for _, i := range x.left {
			want.Sights = append(want.Sights, s.Sights[i])
		}
		if got, e := basin.Without(s, x.no); e != api.OK || !reflect.DeepEqual(got, want) {
			t.Errorf("Without %d returns %v, %d", x.no, got, e)
		}
	}
	if got, e := basin.Without(sample(), 7); e != api.OK || len(got.Sights) != 0 {
		t.Errorf("Without the only sight returns %v, %d", got, e)
	}
}

// call is a call of a function of the package with a scene; it returns whether all results but the error are zero values.
type call struct {
	name string
	do   func(s api.Scene) (zero bool, e api.Errno)
}

// some are arguments of the functions.
type some struct {
	cell, day, from, to int
	cells, sheets, flow []int
}

// good returns arguments that are as they have to be for the scene `later` and what is made of it.
func good(s api.Scene) some {
	n, _, _ := basin.Net(s)
	return some{cell: 1, day: 5, from: 5, to: 6, cells: []int{1, 2}, sheets: []int{7}, flow: make([]int, len(n.Diffs))}
}

// calls returns calls of the functions that need a field, of those that do not, and of those without further arguments that could be wrong.
func calls(a some) (needy, others, plain []call) {
	needy = []call{
		{"Cell", func(s api.Scene) (bool, api.Errno) { x, e := basin.Cell(s, a.cell, a.day); return x == api.Span{}, e }},
		{"Proof", func(s api.Scene) (bool, api.Errno) { l, e := basin.Proof(s, a.cell, a.day, true); return l == nil, e }},
		{"Proof of the least", func(s api.Scene) (bool, api.Errno) {
			l, e := basin.Proof(s, a.cell, a.day, false)
			return l == nil, e
		}},
		{"Valley", func(s api.Scene) (bool, api.Errno) {
			x, e := basin.Valley(s, a.cells, a.day)
			return x == api.Span{}, e
		}},
		{"Lost", func(s api.Scene) (bool, api.Errno) {
			x, e := basin.Lost(s, a.cells, a.from, a.to)
			return x == api.Span{}, e
		}},
		{"LostProof", func(s api.Scene) (bool, api.Errno) {
			l, f, e := basin.LostProof(s, a.cells, a.from, a.to, false)
			return l == nil && f == nil, e
		}},
		{"Rests", func(s api.Scene) (bool, api.Errno) { l, e := basin.Rests(s, a.cells, a.day); return l == nil, e }},
		{"CheckRests", func(s api.Scene) (bool, api.Errno) { return true, basin.CheckRests(s, a.cells, a.day, a.sheets) }},
	}
	others = []call{
		{"CheckProof", func(s api.Scene) (bool, api.Errno) {
			return true, basin.CheckProof(s, a.cell, a.day, 3, true, []api.Reason{{Kind: 99}})
		}},
		{"CheckLost", func(s api.Scene) (bool, api.Errno) {
			return true, basin.CheckLost(s, a.cells, a.from, a.to, 3, true, a.flow)
		}},
	}
	plain = []call{
		{"Net", func(s api.Scene) (bool, api.Errno) {
			n, l, e := basin.Net(s)
			return n.Nodes == 0 && n.Diffs == nil && l == nil, e
		}},
		{"Greatest", func(s api.Scene) (bool, api.Errno) { f, e := basin.Greatest(s); return f == nil, e }},
		{"Least", func(s api.Scene) (bool, api.Errno) { f, e := basin.Least(s); return f == nil, e }},
		{"CheckField", func(s api.Scene) (bool, api.Errno) { return true, basin.CheckField(s, [][]int{{math.MaxInt}}) }},
		{"Clash", func(s api.Scene) (bool, api.Errno) { l, is, e := basin.Clash(s); return l == nil && !is, e }},
		{"CheckClash", func(s api.Scene) (bool, api.Errno) { return true, basin.CheckClash(s, a.sheets) }},
		{"With", func(s api.Scene) (bool, api.Errno) {
			x, e := basin.With(s, api.Sight{No: -1})
			return reflect.DeepEqual(x, api.Scene{}), e
		}},
		{"Without", func(s api.Scene) (bool, api.Errno) {
			x, e := basin.Without(s, 7)
			return reflect.DeepEqual(x, api.Scene{}), e
		}},
	}
	return needy, others, plain
}

func refused(t *testing.T, l []call, s api.Scene, want api.Errno) {
	t.Helper()
	for _, c := range l {
		if zero, e := c.do(s); e != want || !zero {
			t.Errorf("%s returns %d, not %d; all else zero: %v", c.name, e, want, zero)
		}
	}
}

// badArguments returns arguments that each function is to refuse.
func badArguments() []some {
	var l []some
	change := func(spoil func(a *some)) {
		a := good(later())
		spoil(&a)
		l = append(l, a)
	}
	for _, x := range []int{0, 3, -1, math.MinInt, math.MaxInt} {
		change(func(a *some) { a.cell, a.cells = x, []int{x} })
		change(func(a *some) {
			a.cell, a.cells = x, []int{1, 2, x}
			slices.Sort(a.cells)
		})
	}
	for _, cells := range [][]int{nil, {}, {2, 1}, {1, 1}, {1, 2, 2}} {
		change(func(a *some) { a.cell, a.cells = 4096, cells })
	}
	for _, x := range []int{4, 7, 0, -1, math.MinInt, math.MaxInt} {
		change(func(a *some) { a.day, a.from = x, x })
		change(func(a *some) { a.day, a.to = x, x })
	}
	return l
}

// P5.1 to P5.7: scenes first, then other arguments, then the rest.
func TestErrorOrder(t *testing.T) {
	for _, x := range spoilings() {
		s := later()
		x.spoil(&s)
		for _, a := range []some{good(later()), {cells: []int{4, 3}, sheets: []int{2, 2}}} {
			needy, others, plain := calls(a)
			refused(t, slices.Concat(needy, others, plain), s, x.want)
		}
	}
	for _, s := range []api.Scene{later(), noWay()} {
		for _, a := range badArguments() {
			a.flow = good(s).flow
			needy, others, _ := calls(a)
			refused(t, slices.Concat(needy, others), s, api.ErrArg)
		}
	}
	needy, others, _ := calls(good(noWay()))
	refused(t, needy, noWay(), api.ErrClash)
	refused(t, others, noWay(), api.ErrProof)
}

// P5.5
func TestLostDays(t *testing.T) {
	for _, s := range []api.Scene{later(), noWay()} {
		flow := good(s).flow
		for _, x := range [][2]int{{6, 5}, {5, 5}, {6, 6}} {
			if got, e := basin.Lost(s, []int{1}, x[0], x[1]); e != api.ErrArg || got != (api.Span{}) {
				t.Errorf("Lost from %d to %d returns %v, %d", x[0], x[1], got, e)
			}
			if flow, f, e := basin.LostProof(s, []int{1}, x[0], x[1], true); e != api.ErrArg || flow != nil || f != nil {
				t.Errorf("LostProof from %d to %d returns %v, %v, %d", x[0], x[1], flow, f, e)
			}
			if e := basin.CheckLost(s, []int{1}, x[0], x[1], 0, true, flow); e != api.ErrArg {
				t.Errorf("CheckLost from %d to %d returns %d", x[0], x[1], e)
			}
		}
	}
}

// roomy returns s with lists behind which there is memory that could be written to by mistake.
func roomy(s api.Scene) api.Scene {
	s.Basin.Cells = append(make([]api.Cell, 0, 40), s.Basin.Cells...)
	s.Basin.Pairs = append(make([][2]int, 0, 40), s.Basin.Pairs...)
	s.Days = append(make([]int, 0, 40), s.Days...)
	s.Sights = append(make([]api.Sight, 0, 40), s.Sights...)
	s.Changes = append(make([]api.Change, 0, 40), s.Changes...)
	return s
}

// wipe writes zeros to all lists of a result.
func wipe(x any) {
	switch l := x.(type) {
	case []int:
		clear(l)
	case []api.Reason:
		clear(l)
	case [][]int:
		for _, row := range l {
			clear(row)
		}
	case api.Net:
		clear(l.Diffs)
	case api.Scene:
		clear(l.Basin.Cells)
		clear(l.Basin.Pairs)
		clear(l.Days)
		clear(l.Sights)
		clear(l.Changes)
	}
}

// P5.1 to P5.7, R2: arguments stay as they are, and results are new memory.
func TestPurity(t *testing.T) {
	start := func() api.Scene {
		return roomy(with(later(), api.Sight{No: 9, Cell: 2, Day: 5, Lo: 0, Hi: 250}, api.Sight{No: 8, Cell: 1, Day: 6, Lo: 0, Hi: 250}))
	}
	s, cells := start(), append(make([]int, 0, 9), 1, 2)
	results := func() []any {
		longer, _ := basin.With(s, api.Sight{No: 3, Cell: 1, Day: 5, Hi: 900})
		shorter, _ := basin.Without(s, 8)
		same, _ := basin.Without(s, 1)
		net, reasons, _ := basin.Net(s)
		greatest, _ := basin.Greatest(s)
		least, _ := basin.Least(s)
		proof, _ := basin.Proof(s, 2, 6, true)
		flow, field, _ := basin.LostProof(s, cells, 5, 6, true)
		clash, _, _ := basin.Clash(clashing())
		rests, _ := basin.Rests(s, cells, 6)
		basin.CheckRests(s, cells, 6, rests)
		basin.CheckClash(s, rests)
		return []any{longer, shorter, same, net, reasons, greatest, least, proof, flow, field, clash, rests}
	}
	want := results()
	for i := range want {
		now := results()
		wipe(now[i])
		for k := range now {
			if k != i && !reflect.DeepEqual(now[k], want[k]) {
				t.Errorf("the results %d and %d share memory", i, k)
			}
		}
		if !reflect.DeepEqual(results(), want) {
			t.Errorf("changing the result %d changes later ones", i)
		}
	}
	if !reflect.DeepEqual(s, start()) || !slices.Equal(cells, []int{1, 2}) {
		t.Error("arguments were changed")
	}
	if s.Sights[:4][3] != (api.Sight{}) || s.Changes[:3][2] != (api.Change{}) || s.Days[:3][2] != 0 || cells[:3][2] != 0 {
		t.Error("the memory behind arguments was changed")
	}
}
