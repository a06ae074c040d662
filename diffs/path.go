package diffs

import (
	"slices"

	"snowline/api"
)

// Apart returns by how much the number at a node can be greater than that at another one, and whether that is bounded.
func Apart(n api.Net, from, to int) (int, bool, api.Errno) {
	l, is, e := Path(n, from, to)
	if !is || e != api.OK {
		return 0, false, e
	}
	var m measured = walk{n, l}
	return m.measure(), true, api.OK
}

// Path returns differences that prove it, and whether there are such.
func Path(n api.Net, from, to int) ([]int, bool, api.Errno) {
	if e := Check(n); e != api.OK {
		return nil, false, e
	}
	if !isIndex(from, n.Nodes) || !isIndex(to, n.Nodes) {
		return nil, false, api.ErrArg
	}
	x, is := settle(n)
	if !is {
		return nil, false, api.ErrClash
	}
	g := newGraph(n, x)
	r := g.search([]int{from}, func(node int) bool { return node == to })
	if r.last == none {
		return nil, false, api.OK
	}
	var l []int
	for _, link := range g.wayTo(r, to) {
		l = append(l, link.diff)
	}
	return l, true, api.OK
}

// CheckPath returns ErrProof unless differences prove that the number at a node is at most so much greater than that at another one.
func CheckPath(n api.Net, from, to, most int, l []int) api.Errno {
	if e := Check(n); e != api.OK {
		return e
	}
	if !isIndex(from, n.Nodes) || !isIndex(to, n.Nodes) || !areIndices(n, l) {
		return api.ErrArg
	}
	w := walk{n, l}
	if end, is := w.end(from); !is || end != to || len(l) >= n.Nodes || !isAtMost(w, most) {
		return api.ErrProof
	}
	return api.OK
}

// Top returns the greatest numbers that fulfil all differences of n.
func Top(n api.Net) ([]int, api.Errno) {
	if e := Check(n); e != api.OK {
		return nil, e
	}
	x, is := settle(n)
	if !is {
		return nil, api.ErrClash
	}
	far := newGraph(n, x).searchAll(0).far
	for i, least := range far {
		if least == unreached {
			return nil, api.ErrFree
		}
		x[i] += least
	}
	return x, api.OK
}

// Bottom returns the least ones.
func Bottom(n api.Net) ([]int, api.Errno) {
	if e := Check(n); e != api.OK {
		return nil, e
	}
	// The opposite numbers fulfil the differences that lead the other way.
	x, e := Top(turned(n))
	for i := range x {
		x[i] = -x[i]
	}
	return x, e
}

// turned returns n with each difference leading the other way.
func turned(n api.Net) api.Net {
	back := api.Net{Nodes: n.Nodes, Diffs: slices.Clone(n.Diffs)}
	for i, d := range n.Diffs {
		back.Diffs[i].From, back.Diffs[i].To = d.To, d.From
	}
	return back
}

// Spare reports whether a difference of n follows from the other ones.
func Spare(n api.Net, k int) (bool, api.Errno) {
	if e := Check(n); e != api.OK {
		return false, e
	}
	if !isIndex(k, len(n.Diffs)) {
		return false, api.ErrArg
	}
	if _, e := Solve(n); e != api.OK {
		return false, e
	}
	d := n.Diffs[k]
	others := api.Net{Nodes: n.Nodes, Diffs: slices.Delete(slices.Clone(n.Diffs), k, k+1)}
	apart, is, e := Apart(others, d.From, d.To)
	return is && apart <= d.Most, e
}
