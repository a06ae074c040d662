package basin_test

import (
	"math/rand"
	"slices"
	"testing"

	"snowline/api"
	"snowline/basin"
	"snowline/diffs"
)

// P5.2
func TestNet(t *testing.T) {
	s := later()
	s.Basin.Cells = append(s.Basin.Cells, api.Cell{No: 9, Height: 1200, Aspect: 2, Area: 1})
	s.Basin.Pairs = [][2]int{{0, 2}, {2, 1}, {0, 1}} // The cells 0 and 2 do not lie on like slopes.
	s.Changes = s.Changes[:1]
	n, l, e := basin.Net(s)
	want := []api.Diff{
		{From: 0, To: 1, Most: 900}, {From: 1, To: 0}, {From: 0, To: 2, Most: 900}, {From: 2, To: 0}, {From: 0, To: 3, Most: 900}, {From: 3, To: 0},
		{From: 3, To: 2, Most: 30}, {From: 2, To: 3, Most: 30}, {From: 1, To: 2, Most: 130}, {From: 2, To: 1},
		{From: 0, To: 4, Most: 900}, {From: 4, To: 0}, {From: 0, To: 5, Most: 900}, {From: 5, To: 0}, {From: 0, To: 6, Most: 900}, {From: 6, To: 0},
		{From: 6, To: 5, Most: 30}, {From: 5, To: 6, Most: 30}, {From: 4, To: 5, Most: 130}, {From: 5, To: 4},
		{From: 0, To: 1, Most: 210}, {From: 1, To: 0, Most: -200},
		{From: 1, To: 4, Most: -20}, {From: 4, To: 1, Most: 50},
	}
	var reasons []api.Reason
	for _, day := range []int{5, 6} {
		for _, no := range []int{1, 2, 9} {
			reasons = append(reasons, api.Reason{Kind: api.DeepR, Index: no, Day: day}, api.Reason{Kind: api.BareR, Index: no, Day: day})
		}
		for _, pair := range []int{1, 2} {
			reasons = append(reasons, api.Reason{Kind: api.MoreR, Index: pair, Day: day}, api.Reason{Kind: api.LessR, Index: pair, Day: day})
		}
	}
	reasons = append(reasons, api.Reason{Kind: api.SightR, Upper: true}, api.Reason{Kind: api.SightR}, api.Reason{Kind: api.ChangeR, Upper: true}, api.Reason{Kind: api.ChangeR})
	if e != api.OK || n.Nodes != 7 || !slices.Equal(n.Diffs, want) || !slices.Equal(l, reasons) {
		t.Errorf("Net returns %v, %v, %d", n, l, e)
	}
	if n, l, e := basin.Net(noWay()); e != api.OK || n.Nodes != 5 || len(n.Diffs) != 20 || len(l) != 20 {
		t.Errorf("Net where no field is allowed returns %v, %v, %d", n, l, e)
	}
}

// agrees fails unless the net of s has the differences that the chapter tells.
func agrees(t *testing.T, s api.Scene) api.Net {
	t.Helper()
	n, l, e := basin.Net(s)
	want := bounds(s)
	if e != api.OK || n.Nodes != 1+len(s.Days)*len(s.Basin.Cells) || len(n.Diffs) != len(want) || len(l) != len(want) || diffs.Check(n) != api.OK {
		t.Fatalf("%v: Net returns %v, %v, %d", s, n, l, e)
	}
	node := func(cell, day int) int {
		if cell < 0 {
			return 0
		}
		return 1 + day*len(s.Basin.Cells) + cell
	}
	for i, x := range want {
		if n.Diffs[i] != (api.Diff{From: node(x.from, x.fromDay), To: node(x.to, x.toDay), Most: x.most}) || l[i] != x.reason {
			t.Fatalf("%v: the difference %d is %v, by the reason %v, not %v", s, i, n.Diffs[i], l[i], x)
		}
	}
	return n
}

// P5.2: the assignments of nets are the allowed fields.
func TestNetByTrying(t *testing.T) {
	r := rand.New(rand.NewSource(1))
	for range 300 {
		s := small(r)
		checked(t, s)
		n := agrees(t, s)
		for range 40 {
			f, x := anyField(r, s)
			if is, e := diffs.Holds(n, x); e != api.OK || is != allows(s, f) {
				t.Fatalf("%v: Holds of %v returns %v, %d", s, f, is, e)
			}
		}
	}
	for range 3 {
		s, f := large(r)
		checked(t, s)
		if !allows(s, f) {
			t.Fatal("the field of a large scene is not allowed")
		}
		agrees(t, s)
	}
	for _, s := range widest() {
		agrees(t, s)
	}
}

// anyField returns some water of all cells of s, and the same as numbers at nodes.
func anyField(r *rand.Rand, s api.Scene) ([][]int, []int) {
	var f [][]int
	x := []int{0}
	for range s.Days {
		var water []int
		for range s.Basin.Cells {
			water = append(water, r.Intn(s.Basin.Deep+3)-1)
		}
		f, x = append(f, water), append(x, water...)
	}
	return f, x
}
