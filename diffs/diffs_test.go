package diffs_test

import (
	"math"
	"math/rand"
	"reflect"
	"slices"
	"testing"

	"snowline/api"
	"snowline/diffs"
)

// P4.1
func TestCheck(t *testing.T) {
	for _, n := range invalid() {
		if e := diffs.Check(n); e != api.ErrNet {
			t.Errorf("%d nodes, %d differences: Check returns %d", n.Nodes, len(n.Diffs), e)
		}
	}
	valid := []api.Net{
		sample(), clashing(), {Nodes: 1}, {Nodes: 256}, {Nodes: 1, Diffs: []api.Diff{}}, {Nodes: 2, Diffs: make([]api.Diff, 4096)},
		netOf(256, 255, 0, 0, 0, 255, 0), netOf(2, 0, 1, 1<<30, 1, 0, -1<<30), netOf(2, 1, 1, -1), netOf(2, 0, 1, 4, 0, 1, 4, 0, 1, 3),
	}
	for _, n := range valid {
		if e := diffs.Check(n); e != api.OK {
			t.Errorf("%d nodes, %d differences: Check returns %d", n.Nodes, len(n.Diffs), e)
		}
	}
}

// P4.1
func TestAdd(t *testing.T) {
	n, e := diffs.Add(sample(), diff(2, 1, 9))
	if e != api.OK || !reflect.DeepEqual(n, netOf(3, 0, 1, 5, 1, 2, -2, 2, 0, 0, 2, 1, 9)) {
		t.Errorf("Add returns %v, %d", n, e)
	}
	n, e = diffs.Add(api.Net{Nodes: 1}, diff(0, 0, -1))
	if e != api.OK || !reflect.DeepEqual(n, netOf(1, 0, 0, -1)) {
		t.Errorf("Add to a net without differences returns %v, %d", n, e)
	}
	full := api.Net{Nodes: 2, Diffs: make([]api.Diff, 4095)}
	n, e = diffs.Add(full, diff(0, 1, 7))
	if e != api.OK || len(n.Diffs) != 4096 || n.Diffs[4095] != diff(0, 1, 7) {
		t.Errorf("Add of the last difference there is room for: %d differences, %d", len(n.Diffs), e)
	}
	over := api.Net{Nodes: 2, Diffs: make([]api.Diff, 4096)}
	for _, x := range []struct {
		n api.Net
		d api.Diff
		e api.Errno
	}{
		{over, diff(0, 1, 7), api.ErrLimit},
		{over, diff(0, 2, 7), api.ErrLimit},
		{sample(), diff(0, 3, 7), api.ErrNet},
		{sample(), diff(-1, 0, 7), api.ErrNet},
		{sample(), diff(0, 1, 1<<30+1), api.ErrNet},
		{sample(), diff(0, 1, math.MinInt), api.ErrNet},
		{netOf(2, 0, 2, 0), diff(0, 1, 7), api.ErrNet},
		{api.Net{Nodes: 2, Diffs: make([]api.Diff, 4097)}, diff(0, 1, 7), api.ErrNet},
		{api.Net{Nodes: 257, Diffs: make([]api.Diff, 4096)}, diff(0, 1, 7), api.ErrNet},
	} {
		if n, e := diffs.Add(x.n, x.d); e != x.e || n.Nodes != 0 || n.Diffs != nil {
			t.Errorf("Add of %v to %d differences returns %v, %d, not %d", x.d, len(x.n.Diffs), n, e, x.e)
		}
	}
}

// P4.1
func TestHolds(t *testing.T) {
	for _, x := range []struct {
		x  []int
		is bool
		e  api.Errno
	}{
		{[]int{0, 5, 3}, true, api.OK},
		{[]int{0, 2, 0}, true, api.OK},
		{[]int{0, 6, 3}, false, api.OK},
		{[]int{0, 5, 4}, false, api.OK},
		{[]int{0, 1, -1}, false, api.OK},
		{[]int{1, 6, 4}, false, api.OK},
		{[]int{-1, 4, 2}, false, api.OK},
		{[]int{0, large, -large}, false, api.OK},
		{nil, false, api.ErrArg},
		{[]int{0, 5}, false, api.ErrArg},
		{[]int{0, 5, 3, 0}, false, api.ErrArg},
		{[]int{0, 5, large + 1}, false, api.ErrArg},
		{[]int{-large - 1, 5, 3}, false, api.ErrArg},
		{[]int{0, math.MinInt, math.MaxInt}, false, api.ErrArg},
	} {
		if is, e := diffs.Holds(sample(), x.x); is != x.is || e != x.e {
			t.Errorf("Holds of %v returns %v, %d", x.x, is, e)
		}
	}
	if is, e := diffs.Holds(netOf(3), []int{0, large, -large}); !is || e != api.OK {
		t.Errorf("Holds without differences returns %v, %d", is, e)
	}
	if is, e := diffs.Holds(netOf(1, 0, 0, -1), []int{0}); is || e != api.OK {
		t.Errorf("Holds of a node that would be less than itself returns %v, %d", is, e)
	}
	r := rand.New(rand.NewSource(1))
	for range 3000 {
		n := random(r, 4, 4, 3)
		x := make([]int, n.Nodes)
		for i := range x {
			x[i] = max(0, r.Intn(9)-5) * (1 - 2*r.Intn(2))
		}
		if is, e := diffs.Holds(n, x); is != fitting(n, x) || e != api.OK {
			t.Fatalf("%v: Holds of %v returns %v, %d", n, x, is, e)
		}
	}
}

// P4.1
func TestHigher(t *testing.T) {
	for _, x := range []struct {
		x, y, want []int
		e          api.Errno
	}{
		{[]int{0, 5, 1}, []int{0, 4, 2}, []int{0, 5, 2}, api.OK},
		{[]int{0, 4, 2}, []int{0, 5, 1}, []int{0, 5, 2}, api.OK},
		{[]int{0, 5, 1}, []int{0, 6, 2}, nil, api.ErrProof},
		{[]int{0, 6, 2}, []int{0, 5, 1}, nil, api.ErrProof},
		{[]int{0, 6, 2}, []int{0, 6}, nil, api.ErrArg},
		{[]int{0, 6}, []int{0, 6, 2}, nil, api.ErrArg},
		{[]int{0, 5, 1}, []int{0, 5, large + 1}, nil, api.ErrArg},
		{[]int{0, 5, -large - 1}, []int{0, 5, 1}, nil, api.ErrArg},
		{nil, nil, nil, api.ErrArg},
	} {
		if got, e := diffs.Higher(sample(), x.x, x.y); e != x.e || !slices.Equal(got, x.want) {
			t.Errorf("Higher of %v and %v returns %v, %d", x.x, x.y, got, e)
		}
	}
}

// call is a function of the package with arguments that it is to refuse; it returns whether all results but the error are zero values.
type call struct {
	name string
	do   func(n api.Net) (zero bool, e api.Errno)
}

// badCalls returns calls with arguments of which each is invalid for the sample, whatever the net is.
func badCalls() []call {
	bad := []int{0, 1}
	return []call{
		{"Holds", func(n api.Net) (bool, api.Errno) { is, e := diffs.Holds(n, bad); return !is, e }},
		{"Higher", func(n api.Net) (bool, api.Errno) { l, e := diffs.Higher(n, bad, bad); return l == nil, e }},
		{"CheckClash", func(n api.Net) (bool, api.Errno) { return true, diffs.CheckClash(n, []int{9999}) }},
		{"Apart from", func(n api.Net) (bool, api.Errno) { a, is, e := diffs.Apart(n, -1, 0); return a == 0 && !is, e }},
		{"Apart to", func(n api.Net) (bool, api.Errno) { a, is, e := diffs.Apart(n, 0, 999); return a == 0 && !is, e }},
		{"Path from", func(n api.Net) (bool, api.Errno) {
			l, is, e := diffs.Path(n, 999, 0)
			return l == nil && !is, e
		}},
		{"Path to", func(n api.Net) (bool, api.Errno) {
			l, is, e := diffs.Path(n, 0, math.MinInt)
			return l == nil && !is, e
		}},
		{"CheckPath from", func(n api.Net) (bool, api.Errno) { return true, diffs.CheckPath(n, -1, 0, 0, nil) }},
		{"CheckPath to", func(n api.Net) (bool, api.Errno) { return true, diffs.CheckPath(n, 0, 999, 0, nil) }},
		{"CheckPath index", func(n api.Net) (bool, api.Errno) { return true, diffs.CheckPath(n, 0, 0, 0, []int{0, 9999}) }},
		{"CheckPath -1", func(n api.Net) (bool, api.Errno) { return true, diffs.CheckPath(n, 0, 0, 0, []int{-1}) }},
		{"Spare", func(n api.Net) (bool, api.Errno) { is, e := diffs.Spare(n, 9999); return !is, e }},
		{"Spare -1", func(n api.Net) (bool, api.Errno) { is, e := diffs.Spare(n, -1); return !is, e }},
		{"Most", func(n api.Net) (bool, api.Errno) { m, is, e := diffs.Most(n, bad); return m == 0 && !is, e }},
		{"Best", func(n api.Net) (bool, api.Errno) { l, is, e := diffs.Best(n, bad); return l == nil && !is, e }},
		{"Flow", func(n api.Net) (bool, api.Errno) { l, is, e := diffs.Flow(n, bad); return l == nil && !is, e }},
		{"CheckFlow", func(n api.Net) (bool, api.Errno) { return true, diffs.CheckFlow(n, bad, 0, nil) }},
	}
}

// goodCalls returns calls with arguments that are valid for each net of at least one node and one difference.
func goodCalls() []call {
	zeros := func(n api.Net) []int { return make([]int, max(0, min(n.Nodes, 999))) }
	return []call{
		{"Solve", func(n api.Net) (bool, api.Errno) { l, e := diffs.Solve(n); return l == nil, e }},
		{"Apart", func(n api.Net) (bool, api.Errno) { a, is, e := diffs.Apart(n, 0, 0); return a == 0 && !is, e }},
		{"Path", func(n api.Net) (bool, api.Errno) { l, is, e := diffs.Path(n, 0, 0); return l == nil && !is, e }},
		{"Top", func(n api.Net) (bool, api.Errno) { l, e := diffs.Top(n); return l == nil, e }},
		{"Bottom", func(n api.Net) (bool, api.Errno) { l, e := diffs.Bottom(n); return l == nil, e }},
		{"Close", func(n api.Net) (bool, api.Errno) {
			a, e := diffs.Close(n)
			return a.Nodes == 0 && a.Most == nil && a.Has == nil, e
		}},
		{"Spare", func(n api.Net) (bool, api.Errno) { is, e := diffs.Spare(n, 0); return !is, e }},
		{"Most", func(n api.Net) (bool, api.Errno) {
			m, is, e := diffs.Most(n, zeros(n))
			return m == 0 && !is, e
		}},
		{"Best", func(n api.Net) (bool, api.Errno) {
			l, is, e := diffs.Best(n, zeros(n))
			return l == nil && !is, e
		}},
		{"Flow", func(n api.Net) (bool, api.Errno) {
			l, is, e := diffs.Flow(n, zeros(n))
			return l == nil && !is, e
		}},
	}
}

// P4.1, P4.2, P4.3, P4.4, P4.5, P4.6, P4.7: nets first, then other arguments, then the rest.
func TestErrorOrder(t *testing.T) {
	refused := func(l []call, n api.Net, want api.Errno) {
		t.Helper()
		for _, c := range l {
			if zero, e := c.do(n); e != want || !zero {
				t.Errorf("%s of %d nodes and %d differences: %d, not %d; all else zero: %v", c.name, n.Nodes, len(n.Diffs), e, want, zero)
			}
		}
	}
	for _, n := range invalid() {
		refused(badCalls(), n, api.ErrNet)
		refused(goodCalls(), n, api.ErrNet)
		if l, is, e := diffs.Clash(n); e != api.ErrNet || is || l != nil {
			t.Errorf("Clash returns %v, %v, %d", l, is, e)
		}
	}
	refused(badCalls(), sample(), api.ErrArg)
	refused(badCalls(), clashing(), api.ErrArg)
	refused(goodCalls(), clashing(), api.ErrClash)
	refused(goodCalls(), netOf(1, 0, 0, -1), api.ErrClash)
	refused(goodCalls(), netOf(9, 7, 8, -4, 8, 7, 3), api.ErrClash)
}

// P4.1 to P4.7, R2: arguments stay as they are, and results are new memory.
func TestPurity(t *testing.T) {
	roomy := func(l []int) []int { return append(make([]int, 0, 99), l...) }
	n := api.Net{Nodes: 3, Diffs: append(make([]api.Diff, 0, 99), sample().Diffs...)}
	x, w := roomy([]int{0, 4, 1}), roomy([]int{3, -1, 2})
	first := func() []any {
		longer, _ := diffs.Add(n, diff(0, 1, 9))
		solved, _ := diffs.Solve(n)
		higher, _ := diffs.Higher(n, x, x)
		path, _, _ := diffs.Path(n, 0, 2)
		top, _ := diffs.Top(n)
		bottom, _ := diffs.Bottom(n)
		best, _, _ := diffs.Best(n, w)
		flow, _, _ := diffs.Flow(n, w)
		spare, _ := diffs.Spare(n, 0)
		table, _ := diffs.Close(n)
		narrow, _ := diffs.Narrow(table, diff(0, 1, 4))
		same, _ := diffs.Narrow(table, diff(0, 1, 99))
		clash, _, _ := diffs.Clash(with(n, diff(0, 1, 1)))
		return []any{longer.Diffs, solved, higher, path, top, bottom, best, flow, table.Most, table.Has, narrow.Most, narrow.Has, same.Most, same.Has, clash, spare}
	}
	want := first()
	for i := range want {
		now := first()
		switch l := now[i].(type) {
		case []int:
			clear(l)
		case []bool:
			clear(l)
		case []api.Diff:
			clear(l)
		}
		for k := range now {
			if k != i && !reflect.DeepEqual(now[k], want[k]) {
				t.Errorf("the results %d and %d share memory", i, k)
			}
		}
		if !reflect.DeepEqual(first(), want) {
			t.Errorf("changing the result %d changes later ones", i)
		}
	}
	if !reflect.DeepEqual(n.Diffs, sample().Diffs) || !slices.Equal(x, []int{0, 4, 1}) || !slices.Equal(w, []int{3, -1, 2}) {
		t.Error("arguments were changed")
	}
	if n.Diffs[:4][3] != (api.Diff{}) || x[:4][3] != 0 || w[:4][3] != 0 {
		t.Error("the memory behind arguments was changed")
	}
}
