package basin

import (
	"math"

	"snowline/api"
	"snowline/diffs"
)

// Proof returns reasons why the water of a cell on a day is not greater, or not less.
func Proof(s api.Scene, cell, day int, most bool) ([]api.Reason, api.Errno) {
	f, e := read(s)
	if e != api.OK {
		return nil, e
	}
	node, is := f.find(cell, day)
	if !is {
		return nil, api.ErrArg
	}
	path, e := f.path(node, most)
	if e != api.OK {
		return nil, e
	}
	var l []api.Reason
	for _, i := range path {
		l = append(l, f.reasons[i])
	}
	return l, api.OK
}

// CheckProof returns ErrProof unless reasons prove that the water of a cell on a day is at most, or at least, so much.
func CheckProof(s api.Scene, cell, day, water int, most bool, l []api.Reason) api.Errno {
	f, e := read(s)
	if e != api.OK {
		return e
	}
	node, is := f.find(cell, day)
	if !is {
		return api.ErrArg
	}
	path, is := f.named(l)
	if !is {
		return api.ErrProof
	}
	from, to := walkEnds(node, most)
	return diffs.CheckPath(f.net, from, to, bound(water, most), path)
}

// path returns the differences that prove the greatest or the least water of a node. It always ends, as each node is bounded by the ground.
func (f frame) path(node int, most bool) ([]int, api.Errno) {
	from, to := walkEnds(node, most)
	l, _, e := diffs.Path(f.net, from, to)
	return l, e
}

// walkEnds returns from where to where a walk leads that proves a bound of the water of a node.
func walkEnds(node int, most bool) (from, to int) {
	if most {
		return ground, node
	}
	return node, ground
}

// bound returns the upper bound that is to be proved of a number, or, if it is to be at least as great as x, of its opposite.
func bound(x int, most bool) int {
	if most {
		return x
	}
	return -max(x, -math.MaxInt) // The opposite of the least integer is none.
}

// named returns the differences that reasons name, and whether each names one and they are few enough for a proof.
func (f frame) named(l []api.Reason) ([]int, bool) {
	if len(l) >= f.net.Nodes {
		return nil, false
	}
	var path []int
	for _, r := range l {
		i, is := f.index(r)
		if !is {
			return nil, false
		}
		path = append(path, i)
	}
	return path, true
}

// index returns the difference that a reason names, and whether there is one.
func (f frame) index(r api.Reason) (int, bool) {
	for i := range len(f.reasons) {
		if f.reasons[i] == r {
			return i, true
		}
	}
	return 0, false
}
