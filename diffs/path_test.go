package diffs_test

import (
	"math"
	"math/rand"
	"slices"
	"testing"

	"snowline/api"
	"snowline/diffs"
)

// P4.3
func TestApart(t *testing.T) {
	chain := api.Net{Nodes: 256}
	for i := range 255 {
		chain.Diffs = append(chain.Diffs, diff(i, i+1, 1<<30))
	}
	falling := api.Net{Nodes: 256}
	for i := range 255 {
		falling.Diffs = append(falling.Diffs, diff(255-i, 254-i, -1<<30))
	}
	for _, x := range []struct {
		n        api.Net
		from, to int
		want     int
		is       bool
	}{
		{sample(), 0, 2, 3, true},
		{sample(), 2, 1, 5, true},
		{sample(), 1, 0, -2, true},
		{sample(), 0, 0, 0, true},
		{sample(), 1, 1, 0, true},
		{netOf(1), 0, 0, 0, true},
		{netOf(2), 0, 1, 0, false},
		{netOf(2), 1, 0, 0, false},
		{netOf(2), 1, 1, 0, true},
		{netOf(2, 1, 1, 4), 1, 1, 0, true},
		{netOf(2, 0, 1, 4), 1, 0, 0, false},
		{netOf(2, 0, 1, 4, 0, 1, 2, 0, 1, 3), 0, 1, 2, true},
		{netOf(4, 2, 3, 4), 2, 3, 4, true}, // neither hangs together with the node 0
		{netOf(3, 0, 1, 1, 1, 0, -1, 1, 2, 5), 0, 2, 6, true},
		{chain, 0, 255, 255 << 30, true},
		{chain, 255, 0, 0, false},
		{falling, 255, 0, -255 << 30, true},
		{falling, 200, 7, -193 << 30, true},
	} {
		a, is, e := diffs.Apart(x.n, x.from, x.to)
		if a != x.want || is != x.is || e != api.OK {
			t.Errorf("%d nodes: Apart of %d and %d returns %d, %v, %d", x.n.Nodes, x.from, x.to, a, is, e)
		}
		checkPath(t, x.n, x.from, x.to)
	}
	for _, x := range []struct{ from, to int }{{0, 3}, {3, 0}, {-1, 0}, {0, -1}, {math.MaxInt, 0}, {0, math.MinInt}} {
		if a, is, e := diffs.Apart(sample(), x.from, x.to); a != 0 || is || e != api.ErrArg {
			t.Errorf("Apart of %d and %d returns %d, %v, %d", x.from, x.to, a, is, e)
		}
		if l, is, e := diffs.Path(sample(), x.from, x.to); l != nil || is || e != api.ErrArg {
			t.Errorf("Path from %d to %d returns %v, %v, %d", x.from, x.to, l, is, e)
		}
	}
}

// checkPath fails unless Path returns a path as long as Apart says, or nothing if that says nothing.
func checkPath(t *testing.T, n api.Net, from, to int) {
	t.Helper()
	apart, is, e := diffs.Apart(n, from, to)
	l, there, f := diffs.Path(n, from, to)
	if e != api.OK || f != api.OK || there != is {
		t.Fatalf("%v: Apart of %d and %d says %v, %d; Path %v, %d", n, from, to, is, e, there, f)
	}
	if !is {
		if l != nil || apart != 0 {
			t.Fatalf("%v: Apart of %d and %d is %d, Path is %v", n, from, to, apart, l)
		}
		return
	}
	// A path comes to no node twice, so it leaves none twice, and does not leave its last one.
	left := starts(n, l)
	if !leads(n, from, to, l) || len(left) != len(l) || left[to] || length(n, l) != apart {
		t.Fatalf("%v: Path from %d to %d is %v, not a path of the length %d", n, from, to, l, apart)
	}
	if e := diffs.CheckPath(n, from, to, apart, l); e != api.OK {
		t.Fatalf("%v: CheckPath of %v from %d to %d with %d returns %d", n, l, from, to, apart, e)
	}
	if e := diffs.CheckPath(n, from, to, apart-1, l); e != api.ErrProof {
		t.Fatalf("%v: CheckPath of %v from %d to %d with less than %d returns %d", n, l, from, to, apart, e)
	}
}

// P4.3
func TestPath(t *testing.T) {
	for _, x := range []struct {
		from, to int
		want     []int
	}{{0, 2, []int{0, 1}}, {2, 1, []int{2, 0}}, {1, 0, []int{1, 2}}, {1, 1, nil}} {
		if l, is, e := diffs.Path(sample(), x.from, x.to); !slices.Equal(l, x.want) || !is || e != api.OK {
			t.Errorf("Path from %d to %d returns %v, %v, %d", x.from, x.to, l, is, e)
		}
	}
}

// P4.3: the greatest difference in all assignments, found by trying.
func TestApartByTrying(t *testing.T) {
	r := rand.New(rand.NewSource(5))
	bounded := 0
	for range 900 {
		n := random(r, 3, 5, 2)
		all := tried(n, 13)
		for from := range n.Nodes {
			for to := range n.Nodes {
				if len(all) == 0 {
					if _, _, e := diffs.Apart(n, from, to); e != api.ErrClash {
						t.Fatalf("%v: Apart returns %d", n, e)
					}
					continue
				}
				greatest := math.MinInt
				for _, x := range all {
					greatest = max(greatest, x[to]-x[from])
				}
				a, is, e := diffs.Apart(n, from, to)
				// Lengths of paths are at most 4 in size: a difference can only be greater if nothing bounds it.
				if e != api.OK || is != (greatest <= 4) || is && a != greatest {
					t.Fatalf("%v: Apart of %d and %d returns %d, %v, %d, not %d", n, from, to, a, is, e, greatest)
				}
				if is && from != to {
					bounded++
				}
				checkPath(t, n, from, to)
			}
		}
	}
	if bounded < 500 {
		t.Errorf("only %d pairs are bounded", bounded)
	}
}

// P4.3, P4.9: walks between nodes of larger nets, compared with the least lengths of walks over more and more nodes.
func TestApartOfLargeNets(t *testing.T) {
	r := rand.New(rand.NewSource(6))
	for range 150 {
		n := around(r, 1+r.Intn(14), r.Intn(60))
		want, is := lengths(n)
		if !is {
			t.Fatalf("%v has no assignment", n)
		}
		for i := range n.Nodes {
			for j := range n.Nodes {
				a, is, e := diffs.Apart(n, i, j)
				place := i*n.Nodes + j
				if a != want.Most[place] || is != want.Has[place] || e != api.OK {
					t.Fatalf("%v: Apart of %d and %d returns %d, %v, %d", n, i, j, a, is, e)
				}
				checkPath(t, n, i, j)
			}
		}
	}
}

// P4.3
func TestCheckPath(t *testing.T) {
	looped := netOf(3, 0, 1, 5, 1, 2, -2, 2, 0, 0, 1, 1, 3, 0, 0, -7)
	for _, x := range []struct {
		n              api.Net
		from, to, most int
		l              []int
		want           api.Errno
	}{
		{sample(), 0, 2, 3, []int{0, 1}, api.OK},
		{sample(), 0, 2, math.MaxInt, []int{0, 1}, api.OK},
		{sample(), 0, 2, 2, []int{0, 1}, api.ErrProof},
		{sample(), 0, 2, math.MinInt, []int{0, 1}, api.ErrProof},
		{sample(), 0, 2, 9, []int{1, 0}, api.ErrProof},
		{sample(), 0, 1, 9, []int{0, 1}, api.ErrProof},
		{sample(), 1, 2, 9, []int{0, 1}, api.ErrProof},
		{sample(), 0, 2, 9, []int{0}, api.ErrProof},
		{sample(), 0, 2, 9, []int{0, 2}, api.ErrProof},
		{sample(), 0, 2, 9, nil, api.ErrProof},
		{sample(), 0, 0, 0, nil, api.OK},
		{sample(), 2, 2, 0, []int{}, api.OK},
		{sample(), 2, 2, -1, nil, api.ErrProof},
		{sample(), 0, 0, 3, []int{0, 1, 2}, api.ErrProof}, // more than Nodes - 1
		{sample(), 0, 1, 99, []int{0, 1, 2, 0}, api.ErrProof},
		{sample(), 0, 2, 9, []int{3}, api.ErrArg},
		{sample(), 0, 2, 9, []int{-1}, api.ErrArg},
		{sample(), 0, 2, 9, []int{1, 0, math.MaxInt}, api.ErrArg},
		{sample(), 3, 2, 9, nil, api.ErrArg},
		{sample(), 0, -1, 9, nil, api.ErrArg},
		{looped, 0, 1, 8, []int{0, 3}, api.OK}, // a walk may come to a node twice
		{looped, 0, 1, 7, []int{0, 3}, api.ErrProof},
		{looped, 0, 0, -14, []int{4, 4}, api.OK}, // there is no assignment
		{looped, 0, 0, -15, []int{4, 4}, api.ErrProof},
		{looped, 0, 0, -7, []int{4, 4, 4}, api.ErrProof},
		{netOf(1, 0, 0, 1), 0, 0, 5, []int{0}, api.ErrProof}, // of one node none but the empty list
		{netOf(1, 0, 0, 1), 0, 0, 0, nil, api.OK},
		{netOf(2, 0, 0, 1<<30), 0, 0, 1 << 30, make([]int, 99999), api.ErrProof},
	} {
		if e := diffs.CheckPath(x.n, x.from, x.to, x.most, x.l); e != x.want {
			t.Errorf("CheckPath of %v from %d to %d with %d: %d, not %d", x.l[:min(9, len(x.l))], x.from, x.to, x.most, e, x.want)
		}
	}
}

// P4.3, P4.9: all lists of small nets.
func TestAllWalks(t *testing.T) {
	r := rand.New(rand.NewSource(7))
	for range 150 {
		n := random(r, 3, 4, 3)
		all := tried(n, 10)
		from, to := r.Intn(n.Nodes), r.Intn(n.Nodes)
		for _, l := range lists(len(n.Diffs), n.Nodes) {
			is := leads(n, from, to, l) && len(l) < n.Nodes
			for most := length(n, l) - 1; most <= length(n, l)+1; most++ {
				e := diffs.CheckPath(n, from, to, most, l)
				want := is && length(n, l) <= most
				if want != (e == api.OK) || !want && e != api.ErrProof {
					t.Fatalf("%v: CheckPath of %v from %d to %d with %d: %d", n, l, from, to, most, e)
				}
				for _, x := range all {
					if e == api.OK && x[to]-x[from] > most {
						t.Fatalf("%v: in %v the number at %d is by more than %d greater than that at %d", n, x, to, most, from)
					}
				}
			}
		}
	}
}

// P4.9
func TestTriangles(t *testing.T) {
	r := rand.New(rand.NewSource(8))
	for range 60 {
		n := around(r, 2+r.Intn(8), 4+r.Intn(30))
		for range 40 {
			i, j, k := r.Intn(n.Nodes), r.Intn(n.Nodes), r.Intn(n.Nodes)
			a, hasA, _ := diffs.Apart(n, i, j)
			b, hasB, _ := diffs.Apart(n, j, k)
			both, has, _ := diffs.Apart(n, i, k)
			if hasA && hasB && (!has || both > a+b) {
				t.Fatalf("%v: Apart of %d and %d is %d, over %d it is %d + %d", n, i, k, both, j, a, b)
			}
			back, hasBack, _ := diffs.Apart(n, j, i)
			if hasA && hasBack && a+back < 0 {
				t.Fatalf("%v: Apart of %d and %d there and back is %d and %d", n, i, j, a, back)
			}
		}
	}
}

// P4.4
func TestTop(t *testing.T) {
	for _, x := range []struct {
		n           api.Net
		top, bottom []int
		e, f        api.Errno
	}{
		{sample(), []int{0, 5, 3}, []int{0, 2, 0}, api.OK, api.OK},
		{netOf(1), []int{0}, []int{0}, api.OK, api.OK},
		{netOf(1, 0, 0, 3), []int{0}, []int{0}, api.OK, api.OK},
		{netOf(2), nil, nil, api.ErrFree, api.ErrFree},
		{netOf(2, 0, 1, 4), []int{0, 4}, nil, api.OK, api.ErrFree},
		{netOf(2, 1, 0, 4), nil, []int{0, -4}, api.ErrFree, api.OK},
		{netOf(3, 0, 1, 4, 1, 0, -4, 1, 2, 7), []int{0, 4, 11}, nil, api.OK, api.ErrFree},
		{netOf(3, 0, 1, 4, 1, 0, -4, 2, 1, 7), nil, []int{0, 4, -3}, api.ErrFree, api.OK},
		{netOf(3, 1, 2, 0, 2, 1, 0), nil, nil, api.ErrFree, api.ErrFree},
		{clashing(), nil, nil, api.ErrClash, api.ErrClash},
		{netOf(3, 1, 1, -1), nil, nil, api.ErrClash, api.ErrClash}, // free too: that comes later
	} {
		if l, e := diffs.Top(x.n); !slices.Equal(l, x.top) || e != x.e {
			t.Errorf("%v: Top returns %v, %d", x.n, l, e)
		}
		if l, e := diffs.Bottom(x.n); !slices.Equal(l, x.bottom) || e != x.f {
			t.Errorf("%v: Bottom returns %v, %d", x.n, l, e)
		}
	}
}

// P4.4: at each node Apart of 0 and it, or the opposite of Apart of it and 0.
func TestTopIsApart(t *testing.T) {
	r := rand.New(rand.NewSource(9))
	free := 0
	for range 300 {
		n := around(r, 1+r.Intn(9), r.Intn(40))
		wantTop, wantBottom := make([]int, n.Nodes), make([]int, n.Nodes)
		isTop, isBottom := true, true
		for i := range n.Nodes {
			a, is, _ := diffs.Apart(n, 0, i)
			wantTop[i], isTop = a, isTop && is
			b, is, _ := diffs.Apart(n, i, 0)
			wantBottom[i], isBottom = -b, isBottom && is
		}
		same := func(l []int, e api.Errno, want []int, is bool) bool {
			if !is {
				free++
				return e == api.ErrFree && l == nil
			}
			return e == api.OK && slices.Equal(l, want) && fitting(n, l)
		}
		if l, e := diffs.Top(n); !same(l, e, wantTop, isTop) {
			t.Fatalf("%v: Top returns %v, %d, not %v", n, l, e, wantTop)
		}
		if l, e := diffs.Bottom(n); !same(l, e, wantBottom, isBottom) {
			t.Fatalf("%v: Bottom returns %v, %d, not %v", n, l, e, wantBottom)
		}
	}
	if free < 30 || free > 570 {
		t.Errorf("%d of 600 are free: too few of one kind", free)
	}
}

// P4.4, P4.10
func TestLattice(t *testing.T) {
	r := rand.New(rand.NewSource(10))
	for range 300 {
		n := boxed(random(r, 3, 5, 3), 4)
		all := tried(n, 4)
		if len(all) == 0 {
			continue
		}
		highest, lowest := slices.Clone(all[0]), slices.Clone(all[0])
		for _, x := range all {
			for i := range x {
				highest[i], lowest[i] = max(highest[i], x[i]), min(lowest[i], x[i])
			}
		}
		if l, e := diffs.Top(n); e != api.OK || !slices.Equal(l, highest) {
			t.Fatalf("%v: Top returns %v, %d, not %v", n, l, e, highest)
		}
		if l, e := diffs.Bottom(n); e != api.OK || !slices.Equal(l, lowest) {
			t.Fatalf("%v: Bottom returns %v, %d, not %v", n, l, e, lowest)
		}
		for range 20 {
			x, y := all[r.Intn(len(all))], all[r.Intn(len(all))]
			want := make([]int, n.Nodes)
			for i := range x {
				want[i] = max(x[i], y[i])
			}
			got, e := diffs.Higher(n, x, y)
			if e != api.OK || !slices.Equal(got, want) {
				t.Fatalf("%v: Higher of %v and %v returns %v, %d", n, x, y, got, e)
			}
			holds(t, n, got)
		}
	}
}

// P4.6
func TestSpare(t *testing.T) {
	n := with(sample(), diff(0, 2, 4))
	for k, want := range []bool{false, false, false, true} {
		if is, e := diffs.Spare(n, k); is != want || e != api.OK {
			t.Errorf("Spare of %d returns %v, %d", k, is, e)
		}
	}
	for _, x := range []struct {
		n  api.Net
		k  int
		is bool
	}{
		{with(sample(), diff(0, 2, 3)), 3, true},
		{with(sample(), diff(0, 2, 2)), 3, false},
		{netOf(2, 0, 1, 3, 0, 1, 3), 0, true}, // each of two equal ones, as the other one is there
		{netOf(2, 0, 1, 3, 0, 1, 3), 1, true},
		{netOf(2, 0, 1, 3, 0, 1, 4), 0, false},
		{netOf(2, 0, 1, 3, 0, 1, 4), 1, true},
		{netOf(2, 1, 1, 0), 0, true},
		{netOf(1, 0, 0, 5), 0, true},
		{netOf(2, 0, 1, 1<<30), 0, false}, // nothing else bounds it
		{netOf(3, 1, 2, 5), 0, false},
	} {
		if is, e := diffs.Spare(x.n, x.k); is != x.is || e != api.OK {
			t.Errorf("%v: Spare of %d returns %v, %d", x.n, x.k, is, e)
		}
	}
	for _, k := range []int{-1, 4, math.MaxInt, math.MinInt} {
		if is, e := diffs.Spare(n, k); is || e != api.ErrArg {
			t.Errorf("Spare of %d returns %v, %d", k, is, e)
		}
	}
	if is, e := diffs.Spare(netOf(1), 0); is || e != api.ErrArg {
		t.Errorf("Spare without differences returns %v, %d", is, e)
	}
	for k := range 4 { // also where the net without the difference has an assignment
		if is, e := diffs.Spare(clashing(), k); is || e != api.ErrClash {
			t.Errorf("Spare of %d of a round returns %v, %d", k, is, e)
		}
	}
}

// P4.6: whether each assignment of the other differences is one of the net, found by trying.
func TestSpareByTrying(t *testing.T) {
	r := rand.New(rand.NewSource(11))
	spare := 0
	for range 500 {
		n := random(r, 3, 5, 2)
		if len(tried(n, 13)) == 0 {
			continue
		}
		for k := range n.Diffs {
			want := true
			for _, x := range tried(without(n, k), 13) {
				want = want && fitting(n, x)
			}
			if want {
				spare++
			}
			if is, e := diffs.Spare(n, k); is != want || e != api.OK {
				t.Fatalf("%v: Spare of %d returns %v, %d", n, k, is, e)
			}
		}
	}
	if spare < 200 {
		t.Errorf("only %d differences are spare", spare)
	}
}
