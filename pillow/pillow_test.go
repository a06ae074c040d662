package pillow_test

import (
	"math"
	"slices"
	"testing"

	"snowline/api"
	"snowline/pillow"
)

// P3.1
func TestCheck(t *testing.T) {
	most := api.Pillow{No: 4095, Cell: 4095, Noise: 65536, Slab: 65536, Jump: 65536, Faults: 32, Log: []api.Shown{{Day: 0, Weight: 0}, {Day: api.MaxDay, Weight: 65536}}}
	for i, p := range []api.Pillow{{}, {Log: []api.Shown{}}, a(), most, of(0, 0, 0, 0, make([]int, 32)...), of(0, 0, 0, 0, 9, 9, 9)} {
		if e := pillow.Check(p); e != api.OK {
			t.Error(i, e)
		}
	}
	for i, p := range invalid() {
		if e := pillow.Check(p); e != api.ErrLog {
			t.Error(i, e)
		}
	}
}

// P3.1
func TestCheckCase(t *testing.T) {
	still := of(0, 0, 20, 9, 100, 100, 120, 141)
	for i, x := range []struct {
		p api.Pillow
		l []int
		e api.Errno
	}{
		{api.Pillow{}, nil, api.OK}, {api.Pillow{}, []int{}, api.OK}, {api.Pillow{}, []int{0}, api.ErrCase},
		{a(), []int{0, 0, 0}, api.OK}, {a(), []int{0, 2, 0}, api.OK}, {a(), []int{1, 0, 2}, api.OK}, {a(), []int{1, 1, 1}, api.OK}, {a(), []int{1, 2, 0}, api.OK},
		{still, []int{0, 1, 1, 2}, api.OK}, {still, []int{1, 2, 2, 2}, api.OK}, {still, []int{0, 0, 1, 1}, api.ErrCase}, {still, []int{0, 1, 0, 1}, api.ErrCase}, {still, []int{0, 1, 2, 2}, api.ErrCase},
		{still, []int{0, 2, 1, 1}, api.ErrCase}, {still, []int{2, 2, 2, 2}, api.ErrCase},
		// The number of faults.
		{of(0, 0, 0, 0, 1, 1, 1), []int{0, 2, 0}, api.ErrCase}, {of(0, 0, 0, 2, 1, 1, 1), []int{0, 2, 2}, api.OK}, {of(0, 0, 0, 1, 1, 1, 1), []int{0, 2, 2}, api.ErrCase},
		{of(0, 0, 0, 1, 1, 1, 1, 1), []int{0, 2, 0, 2}, api.ErrCase}, {of(0, 0, 0, 2, 1, 1, 1, 1), []int{0, 2, 0, 2}, api.OK},
		{of(0, 0, 0, 31, make([]int, 32)...), append([]int{1}, slices.Repeat([]int{2}, 31)...), api.OK}, {of(0, 0, 0, 30, make([]int, 32)...), append([]int{1}, slices.Repeat([]int{2}, 31)...), api.ErrCase},
		// A case need not remain.
		{of(0, 0, 0, 0, 0, 65536), []int{0, 0}, api.OK},
	} {
		if e := pillow.CheckCase(x.p, x.l); e != x.e {
			t.Error(i, e)
		}
	}
	for i, l := range invalidCases() {
		if e := pillow.CheckCase(a(), l); e != api.ErrCase {
			t.Error(i, e)
		}
	}
}

// P3.1: all lists of states of small pillows.
func TestAllCases(t *testing.T) {
	for _, p := range []api.Pillow{a(), of(0, 0, 0, 0, 5, 6, 6, 9), of(0, 0, 2, 1, 5, 6, 6, 9), of(0, 0, 2, 2, 8, 5, 5, 7), of(0, 0, 65536, 9, 0, 65536, 1, 1)} {
		for _, l := range allStates(len(p.Log)) {
			if e := pillow.CheckCase(p, l); (e == api.OK) != isCase(p, l) || e != api.OK && e != api.ErrCase {
				t.Error(p, l, e)
			}
		}
	}
}

// P3.1
func TestShift(t *testing.T) {
	for i, x := range []struct {
		jump, from, to int
		want           bool
	}{
		{20, 100, 180, true}, {20, 180, 110, true}, {20, 100, 100, true}, {20, 100, 101, false}, {20, 100, 120, false}, {20, 100, 121, true}, {20, 100, 80, false}, {20, 100, 79, true},
		{0, 5, 5, true}, {0, 5, 6, true}, {0, 6, 5, true}, {65536, 0, 65536, false}, {65536, 65536, 0, false}, {65536, 7, 7, true}, {65535, 0, 65536, true}, {65535, 65536, 0, true},
	} {
		if is, e := pillow.Shift(of(0, 0, x.jump, 0, x.from, x.to), 0); is != x.want || e != api.OK {
			t.Error(i, is, e)
		}
	}
	for entry, want := range []bool{true, false, true} {
		if is, e := pillow.Shift(of(0, 0, 3, 0, 9, 9, 6, 0), entry); is != want || e != api.OK {
			t.Error(entry, is, e)
		}
	}
	for _, entry := range []int{-1, 2, 3, math.MinInt, math.MaxInt} {
		if is, e := pillow.Shift(a(), entry); is || e != api.ErrArg {
			t.Error(entry, is, e)
		}
	}
	for _, p := range []api.Pillow{{}, of(0, 0, 0, 0, 4)} {
		for _, entry := range []int{-1, 0, 1} {
			if is, e := pillow.Shift(p, entry); is || e != api.ErrArg {
				t.Error(p, entry, is, e)
			}
		}
	}
}

// P3.1
func TestAdd(t *testing.T) {
	p := a()
	p.No, p.Cell = 7, 8
	want := p
	want.Log = logOf(100, 180, 110, 65536)
	if q, e := pillow.Add(p, api.Shown{Day: 13, Weight: 65536}); !same(q, want) || e != api.OK {
		t.Error(q, e)
	}
	if q, e := pillow.Add(api.Pillow{}, api.Shown{}); !same(q, api.Pillow{Log: []api.Shown{{}}}) || e != api.OK {
		t.Error(q, e)
	}
	if q, e := pillow.Add(of(0, 0, 0, 0, make([]int, 31)...), api.Shown{Day: api.MaxDay}); len(q.Log) != 32 || e != api.OK {
		t.Error(q, e)
	}
	full := of(0, 0, 0, 0, make([]int, 32)...)
	for i, x := range []struct {
		p api.Pillow
		s api.Shown
		e api.Errno
	}{
		{a(), api.Shown{Day: 12}, api.ErrArg}, {a(), api.Shown{Day: -1}, api.ErrArg}, {a(), api.Shown{Day: api.MaxDay + 1}, api.ErrArg}, {a(), api.Shown{Day: math.MinInt}, api.ErrArg},
		{a(), api.Shown{Day: 13, Weight: -1}, api.ErrArg}, {a(), api.Shown{Day: 13, Weight: 65537}, api.ErrArg}, {a(), api.Shown{Day: 13, Weight: math.MaxInt}, api.ErrArg}, {api.Pillow{}, api.Shown{Day: -1}, api.ErrArg},
		{full, api.Shown{Day: 100}, api.ErrLimit}, {full, api.Shown{Weight: -1}, api.ErrLimit},
	} {
		if q, e := pillow.Add(x.p, x.s); !same(q, api.Pillow{}) || e != x.e {
			t.Error(i, q, e)
		}
	}
}

// answers calls all functions that take a pillow, except Check, and returns their errors; a result beside an error is reported.
func answers(t *testing.T, p api.Pillow, w []api.Span, l []int, entry int) map[string]api.Errno {
	t.Helper()
	shift, e1 := pillow.Shift(p, entry)
	added, e2 := pillow.Add(p, api.Shown{Day: -1})
	cases, e3 := pillow.Cases(p, w)
	alive, e4 := pillow.Alive(p, w, l)
	loads, e5 := pillow.Loads(p, w, l)
	witness, e6 := pillow.Witness(p, w, l, entry, true)
	pair, is, e7 := pillow.Refute(p, w, l)
	possible, e8 := pillow.Possible(p, w, entry)
	hull, e9 := pillow.Hull(p, w, entry)
	state, sure, e10 := pillow.Sure(p, w, entry)
	tree, e11 := pillow.Tree(p, w)
	first, parted, e12 := pillow.Parted(p, l, l)
	text, e13 := pillow.Print(p)
	for name, bad := range map[string]bool{
		"Shift": e1 != api.OK && shift, "Add": e2 != api.OK && !same(added, api.Pillow{}), "Cases": e3 != api.OK && len(cases) > 0, "Alive": e4 != api.OK && alive, "Loads": e5 != api.OK && len(loads) > 0,
		"Witness": e6 != api.OK && len(witness) > 0, "Refute": e7 != api.OK && (is || pair != [2]int{}), "Possible": e8 != api.OK && len(possible) > 0, "Hull": e9 != api.OK && hull != api.Span{},
		"Sure": e10 != api.OK && (sure || state != 0), "Tree": e11 != api.OK && len(tree) > 0, "Parted": e12 != api.OK && (parted || first != 0), "Print": e13 != api.OK && text != "",
	} {
		if bad {
			t.Error(name, p, w, l, entry)
		}
	}
	return map[string]api.Errno{
		"CheckCase": pillow.CheckCase(p, l), "Shift": e1, "Add": e2, "Cases": e3, "Alive": e4, "Loads": e5, "Witness": e6, "CheckWitness": pillow.CheckWitness(p, w, l, nil), "Refute": e7,
		"CheckRefute": pillow.CheckRefute(p, w, l, [2]int{}), "Possible": e8, "Hull": e9, "Sure": e10, "Tree": e11, "Parted": e12, "Print": e13,
	}
}

// P3.1 to P3.6: an invalid pillow counts more than other errors, then comes the weather, then a case, then an entry.
func TestErrors(t *testing.T) {
	check := func(got map[string]api.Errno, want api.Errno, names ...string) {
		t.Helper()
		for _, name := range names {
			if got[name] != want {
				t.Error(name, got[name])
			}
		}
	}
	withCase := []string{"Alive", "Loads", "Witness", "CheckWitness", "Refute", "CheckRefute"}
	withEntry := []string{"Possible", "Hull", "Sure"}
	for _, p := range invalid() {
		got := answers(t, p, nil, []int{7}, -1)
		for name, e := range got {
			if e != api.ErrLog {
				t.Error(name, p, e)
			}
		}
	}
	for _, w := range invalidWeather() {
		got := answers(t, a(), w, []int{7}, -1)
		check(got, api.ErrArg, append(append([]string{"Cases", "Tree"}, withCase...), withEntry...)...)
		check(got, api.ErrCase, "CheckCase", "Parted")
	}
	for _, l := range invalidCases() {
		got := answers(t, a(), w(), l, -1)
		check(got, api.ErrCase, append([]string{"CheckCase", "Parted"}, withCase...)...)
		check(got, api.ErrArg, withEntry...)
	}
	for _, entry := range []int{-1, 3, math.MinInt, math.MaxInt} {
		// Both of a case that remains and of one that does not.
		for _, l := range [][]int{{0, 2, 0}, {0, 0, 0}} {
			check(answers(t, a(), w(), l, entry), api.ErrArg, append([]string{"Shift", "Witness"}, withEntry...)...)
		}
		// Where there are too many cases, or none, too.
		check(answers(t, of(9, 0, 0, 9, make([]int, 9)...), wide(8), nil, entry*3), api.ErrArg, withEntry...)
		check(answers(t, of(0, 0, 0, 0, 0, 9), spans(0, 0), []int{0, 0}, entry), api.ErrArg, append([]string{"Witness"}, withEntry...)...)
	}
	check(answers(t, api.Pillow{}, nil, nil, 0), api.ErrArg, append([]string{"Shift", "Witness"}, withEntry...)...)
	check(answers(t, api.Pillow{}, spans(0, 0), nil, 0), api.ErrArg, append([]string{"Cases", "Tree"}, withCase...)...)
	check(answers(t, of(0, 0, 0, 0, 3), nil, []int{0}, 0), api.OK, append([]string{"Cases", "Tree", "Alive", "Loads", "Witness", "Refute"}, withEntry...)...)
	check(answers(t, of(0, 0, 0, 0, 3), spans(0, 0), []int{0}, 0), api.ErrArg, append([]string{"Cases", "Tree"}, withCase...)...)
}

// R2: no function changes its arguments, and no result shares memory with one or with another result.
func TestArgumentsStay(t *testing.T) {
	p := a()
	// There is room behind the entries, into which an append would write.
	p.Log = append(make([]api.Shown, 0, 9), p.Log...)
	weather, l, loads := w(), []int{0, 2, 0}, []int{100, 100, 110}
	q, _ := pillow.Add(p, api.Shown{Day: 20, Weight: 9})
	cases, _ := pillow.Cases(p, weather)
	spansOf, _ := pillow.Loads(p, weather, l)
	witness, _ := pillow.Witness(p, weather, l, 0, true)
	_ = pillow.CheckWitness(p, weather, l, loads)
	possible, _ := pillow.Possible(p, weather, 1)
	answers(t, p, weather, l, 0)
	for i := range q.Log {
		q.Log[i] = api.Shown{Day: 77}
	}
	for i := range spansOf {
		spansOf[i] = span(7, 7)
	}
	for i := range witness {
		witness[i] = 77
	}
	possible[0] = span(7, 7)
	for i := range cases[0] {
		cases[0][i] = 77
	}
	cases[1] = append(cases[1], 77)
	if !slices.Equal(p.Log, a().Log) || p.Log[:4][3] != (api.Shown{}) || !slices.Equal(weather, w()) || !slices.Equal(l, []int{0, 2, 0}) || !slices.Equal(loads, []int{100, 100, 110}) {
		t.Error(p, weather, l, loads)
	}
	if !slices.Equal(cases[2], []int{1, 2, 0}) || !slices.Equal(cases[3], []int{1, 2, 1}) {
		t.Error(cases)
	}
	if again, _ := pillow.Cases(p, weather); !slices.Equal(again[0], []int{0, 2, 0}) {
		t.Error(again)
	}
}
