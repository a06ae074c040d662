package basin

import (
	"snowline/api"
	"snowline/diffs"
)

// Greatest returns the water of all cells, day by day, which is nowhere greater in any field that s allows.
func Greatest(s api.Scene) ([][]int, api.Errno) { return extreme(s, diffs.Top) }

// Least returns the one which is nowhere less.
func Least(s api.Scene) ([][]int, api.Errno) { return extreme(s, diffs.Bottom) }

// extreme returns the field of s whose water is the assignment that solve finds.
func extreme(s api.Scene, solve func(api.Net) ([]int, api.Errno)) ([][]int, api.Errno) {
	f, e := read(s)
	if e != api.OK {
		return nil, e
	}
	x, e := solve(f.net)
	if e != api.OK {
		return nil, e
	}
	return f.field(x), api.OK
}

// CheckField returns ErrField unless s allows the water of all cells, day by day.
func CheckField(s api.Scene, f [][]int) api.Errno {
	r, e := read(s)
	if e != api.OK {
		return e
	}
	x, is := r.water(f)
	if !is {
		return api.ErrField
	}
	if holds, e := diffs.Holds(r.net, x); !holds || e != api.OK { // A number may be too large for Holds.
		return api.ErrField
	}
	return api.OK
}

// Cell returns the least and the greatest water of a cell on a day.
func Cell(s api.Scene, cell, day int) (api.Span, api.Errno) {
	f, e := read(s)
	if e != api.OK {
		return api.Span{}, e
	}
	node, is := f.find(cell, day)
	if !is {
		return api.Span{}, api.ErrArg
	}
	l, e := f.spans([]int{node})
	if e != api.OK {
		return api.Span{}, e
	}
	return l[0], api.OK
}

// spans returns the least and the greatest water of each of the nodes.
func (f frame) spans(nodes []int) ([]api.Span, api.Errno) {
	least, greatest, e := f.bounds()
	if e != api.OK {
		return nil, e
	}
	var l []api.Span
	for _, node := range nodes {
		l = append(l, api.Span{Lo: least[node], Hi: greatest[node]})
	}
	return l, api.OK
}

// bounds returns the least and the greatest water of all nodes.
func (f frame) bounds() (least, greatest []int, e api.Errno) {
	least, e = diffs.Bottom(f.net)
	if e != api.OK {
		return nil, nil, e
	}
	greatest, e = diffs.Top(f.net)
	return least, greatest, e
}
