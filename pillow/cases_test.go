package pillow_test

import (
	"math/rand"
	"slices"
	"testing"

	"snowline/api"
	"snowline/pillow"
)

// P3.2, P3.5
func TestCases(t *testing.T) {
	for i, x := range []struct {
		p    api.Pillow
		w    []api.Span
		want [][]int
		tree []int
	}{
		{api.Pillow{}, nil, [][]int{{}}, nil}, {of(0, 0, 0, 9, 7), nil, [][]int{{0}, {1}}, []int{2}},
		{a(), w(), [][]int{{0, 2, 0}, {0, 2, 1}, {1, 2, 0}, {1, 2, 1}}, []int{2, 2, 4}}, {of(5, 30, 20, 0, 100, 180, 110), w(), nil, []int{2, 0, 0}},
		{of(5, 30, 80, 1, 100, 180, 110), w(), nil, []int{2, 0, 0}}, {of(5, 30, 99, 1, 100, 110, 120), w(), [][]int{{0, 0, 0}, {1, 1, 1}}, []int{2, 2, 2}},
		// A pillow that shows the same may be stuck, and more faults in a row are as many faults.
		{of(0, 0, 9, 2, 50, 50, 55), spans(1, 1, 1, 1), [][]int{{0, 2, 2}, {1, 2, 2}}, []int{2, 2, 2}}, {of(0, 0, 9, 1, 50, 50, 55), spans(1, 1, 1, 1), nil, []int{2, 2, 0}},
		{of(0, 1, 9, 9, 50, 50), spans(0, 0), [][]int{{0, 0}, {0, 1}, {0, 2}, {1, 0}, {1, 1}, {1, 2}}, []int{2, 6}}, {of(0, 1, 9, 0, 50, 50), spans(1, 1), [][]int{{0, 1}, {1, 1}}, []int{2, 2}},
	} {
		l, e := pillow.Cases(x.p, x.w)
		if !sameCases(l, x.want) || e != api.OK {
			t.Error(i, l, e)
		}
		tree, e := pillow.Tree(x.p, x.w)
		if !slices.Equal(tree, x.tree) || e != api.OK {
			t.Error(i, tree, e)
		}
	}
}

// P3.2, P3.5: at most 64 cases.
func TestLimits(t *testing.T) {
	for _, x := range []struct {
		n int
		p api.Pillow
		w []api.Span
	}{
		{64, of(9, 0, 0, 0, make([]int, 6)...), wide(5)}, {128, of(9, 0, 0, 0, make([]int, 7)...), wide(6)}, {162, of(9, 0, 0, 32, make([]int, 5)...), wide(4)},
		{65, of(0, 3, 0, 2, 3, 4, 4, 3, 0, 0, 3), spans(-1, 0, 1, 1, -2, -2, -5, -2, -5, -3, 1, 3)}, {66, of(1, 2, 0, 2, 6, 3, 2, 8, 6, 3), spans(-5, 0, -1, 2, -4, -3, 1, 4, -2, -1)},
	} {
		n := x.n
		if all, is := grown(t, x.p, x.w); len(all) != n || !is {
			t.Error(n, len(all))
		}
		e := api.OK
		if n > api.MaxCases {
			e = api.ErrLimit
		}
		l, e1 := pillow.Cases(x.p, x.w)
		tree, e2 := pillow.Tree(x.p, x.w)
		possible, e3 := pillow.Possible(x.p, x.w, 0)
		hull, e4 := pillow.Hull(x.p, x.w, 0)
		state, is, e5 := pillow.Sure(x.p, x.w, 0)
		if e1 != e || e2 != e || e3 != e || e4 != e || e5 != e {
			t.Error(n, e1, e2, e3, e4, e5)
		}
		if e == api.OK && len(l) != n || e != api.OK && (len(l)+len(tree)+len(possible)+state != 0 || is || hull != api.Span{}) {
			t.Error(n, len(l), tree, possible, hull, state, is)
		}
	}
}

// P3.2, P3.5: far more beginnings remain than cases. Only where the bridge carries as much as it can, all the time, the end of the log is reached.
func TestManyBeginnings(t *testing.T) {
	p := of(0, 10, 0, 0, append(slices.Repeat([]int{100}, 31), 110)...)
	weather := slices.Repeat(spans(0, 0), 31)
	bridged := slices.Repeat([]int{1}, 31)
	l, e := pillow.Cases(p, weather)
	if !sameCases(l, [][]int{append(slices.Clone(bridged), 0), append(slices.Clone(bridged), 1)}) || e != api.OK {
		t.Error(l, e)
	}
	if l, e := pillow.Tree(p, weather); len(l) != 0 || e != api.ErrLimit {
		t.Error(l, e)
	}
	if l, e := pillow.Possible(p, weather, 0); !slices.Equal(l, spans(110, 110)) || e != api.OK {
		t.Error(l, e)
	}
	if s, is, e := pillow.Sure(p, weather, 30); s != 1 || !is || e != api.OK {
		t.Error(s, is, e)
	}
	p.Log[31].Weight = 111
	if l, e := pillow.Cases(p, weather); len(l) != 0 || e != api.OK {
		t.Error(l, e)
	}
	if l, e := pillow.Tree(p, weather); len(l) != 0 || e != api.ErrLimit {
		t.Error(l, e)
	}
	// The same if the end of the log tells nothing, but the entry ahead of it does.
	ahead := of(0, 10, 0, 0, append(slices.Repeat([]int{100}, 30), 110, 111)...)
	if l, e := pillow.Cases(ahead, append(slices.Clone(weather[:30]), wide(1)...)); len(l) != 4 || !slices.Equal(l[0][:30], bridged[:30]) || e != api.OK {
		t.Error(l, e)
	}
	// A fault at the end allows all beginnings.
	p.Faults = 1
	if l, e := pillow.Cases(p, weather); len(l) != 0 || e != api.ErrLimit {
		t.Error(l, e)
	}
	// As many faults as entries, and yet none can be left out.
	all := of(0, 0, 9, 31, append([]int{100}, slices.Repeat([]int{100}, 31)...)...)
	if l, e := pillow.Cases(all, slices.Repeat(spans(1, 1), 31)); len(l) != 2 || !slices.Equal(l[1], append([]int{1}, slices.Repeat([]int{2}, 31)...)) || e != api.OK {
		t.Error(l, e)
	}
	all.Faults = 30
	if l, e := pillow.Cases(all, slices.Repeat(spans(1, 1), 31)); len(l) != 0 || e != api.OK {
		t.Error(l, e)
	}
}

// P3.2, P3.9: the cases are those that remain, found by trying all of them.
func TestCasesByTrying(t *testing.T) {
	none, many := 0, 0
	eachSmall(func(_ *rand.Rand, p api.Pillow, w []api.Span) {
		want := remaining(p, w)
		if l, e := pillow.Cases(p, w); !sameCases(l, want) || e != api.OK {
			t.Fatal(p, w, l, want, e)
		}
		if len(want) == 0 {
			none++
		}
		if len(want) > 8 {
			many++
		}
	})
	if none < 20 || many < 20 {
		t.Error(none, many)
	}
}

// grown returns all cases of a pillow that remain, by trying each state behind each beginning; none if that takes too long.
func grown(t *testing.T, p api.Pillow, w []api.Span) ([][]int, bool) {
	level := [][]int{nil}
	for n := range p.Log {
		q, v := begun(p, w, n+1)
		var next [][]int
		for _, l := range level {
			for state := range 3 {
				m := append(slices.Clone(l), state)
				if pillow.CheckCase(q, m) == api.OK && aliveOf(t, q, v, m) {
					next = append(next, m)
				}
			}
		}
		if level = next; len(level) > 500 {
			return nil, false
		}
	}
	return level, true
}

// P3.9: the same for long logs.
func TestCasesOfLongLogs(t *testing.T) {
	r := rand.New(rand.NewSource(6))
	some, limit := 0, 0
	for range 300 {
		p, w := long(r)
		want, is := grown(t, p, w)
		if !is {
			continue
		}
		l, e := pillow.Cases(p, w)
		if len(want) > api.MaxCases {
			limit++
			if len(l) != 0 || e != api.ErrLimit {
				t.Fatal(p, w, l, e)
			}
			continue
		}
		if !sameCases(l, want) || e != api.OK {
			t.Fatal(p, w, l, want, e)
		}
		if len(want) > 0 {
			some++
		}
	}
	if some < 50 || limit < 5 {
		t.Error(some, limit)
	}
}

// P3.5, P3.13: the numbers of Tree are those of the cases of the beginnings, and grow as the states can change.
func TestTree(t *testing.T) {
	check := func(p api.Pillow, w []api.Span) {
		tree, e := pillow.Tree(p, w)
		if e == api.ErrLimit {
			return
		}
		if e != api.OK || len(tree) != len(p.Log) {
			t.Fatal(p, w, tree, e)
		}
		for i, n := range tree {
			q, v := begun(p, w, i+1)
			if l, e := pillow.Cases(q, v); len(l) != n || e != api.OK {
				t.Fatal(p, w, tree, i, l, e)
			}
			if i == 0 {
				continue
			}
			shift, e := pillow.Shift(p, i-1)
			if e != api.OK || n > 3*tree[i-1] || !shift && n > tree[i-1] {
				t.Fatal(p, w, tree, i, shift, e)
			}
		}
	}
	eachSmall(func(_ *rand.Rand, p api.Pillow, w []api.Span) { check(p, w) })
	eachLong(t, func(_ *rand.Rand, p api.Pillow, w []api.Span, _ [][]int) { check(p, w) })
	for n, e := range map[int]api.Errno{5: api.OK, 6: api.OK, 7: api.ErrLimit, 32: api.ErrLimit} {
		if _, got := pillow.Tree(of(9, 0, 0, 0, make([]int, n)...), wide(n-1)); got != e {
			t.Error(n, got)
		}
	}
}

// P3.5
func TestParted(t *testing.T) {
	for i, x := range []struct {
		p    api.Pillow
		a, b []int
		n    int
		is   bool
		e    api.Errno
	}{
		{a(), []int{0, 2, 0}, []int{0, 2, 1}, 2, true, api.OK}, {a(), []int{0, 2, 0}, []int{0, 2, 0}, 0, false, api.OK}, {a(), []int{0, 2, 0}, []int{1, 2, 0}, 0, true, api.OK}, {a(), []int{0, 2, 0}, []int{0, 0, 0}, 1, true, api.OK},
		{a(), []int{0, 0, 0}, []int{1, 1, 1}, 0, true, api.OK}, {api.Pillow{}, nil, []int{}, 0, false, api.OK},
		{a(), []int{0, 2, 0}, nil, 0, false, api.ErrCase}, {a(), nil, []int{0, 2, 0}, 0, false, api.ErrCase}, {a(), []int{2, 2, 0}, []int{0, 2, 0}, 0, false, api.ErrCase}, {a(), []int{0, 2, 0}, []int{0, 2, 2}, 0, false, api.ErrCase},
		{a(), []int{0, 2, 0}, []int{0, 2, 0, 0}, 0, false, api.ErrCase},
	} {
		if n, is, e := pillow.Parted(x.p, x.a, x.b); n != x.n || is != x.is || e != x.e {
			t.Error(i, n, is, e)
		}
	}
}
