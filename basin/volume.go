package basin

import (
	"snowline/api"
	"snowline/diffs"
)

// Valley returns the least and the greatest volume of cells on a day.
func Valley(s api.Scene, cells []int, day int) (api.Span, api.Errno) {
	f, e := read(s)
	if e != api.OK {
		return api.Span{}, e
	}
	nodes, is := f.findAll(cells, day)
	if !is {
		return api.Span{}, api.ErrArg
	}
	// The least water of all cells is that of one field, and so is the greatest.
	least, greatest, e := f.bounds()
	if e != api.OK {
		return api.Span{}, e
	}
	return api.Span{Lo: f.volume(nodes, least), Hi: f.volume(nodes, greatest)}, api.OK
}

// Lost returns the least and the greatest volume by which the water of cells diminishes from a day to another one.
func Lost(s api.Scene, cells []int, from, to int) (api.Span, api.Errno) {
	f, e := read(s)
	if e != api.OK {
		return api.Span{}, e
	}
	w, is := f.weights(cells, from, to, true)
	if !is {
		return api.Span{}, api.ErrArg
	}
	greatest, _, e := diffs.Most(f.net, w)
	if e != api.OK {
		return api.Span{}, e
	}
	opposite, _, e := diffs.Most(f.net, opposites(w))
	return api.Span{Lo: -opposite, Hi: greatest}, e
}

// LostProof returns how often each difference has to be used to prove the greatest or the least of it, and a field that attains that.
func LostProof(s api.Scene, cells []int, from, to int, most bool) ([]int, [][]int, api.Errno) {
	f, e := read(s)
	if e != api.OK {
		return nil, nil, e
	}
	w, is := f.weights(cells, from, to, most)
	if !is {
		return nil, nil, api.ErrArg
	}
	x, _, e := diffs.Best(f.net, w)
	if e != api.OK {
		return nil, nil, e
	}
	flow, _, e := diffs.Flow(f.net, w)
	return flow, f.field(x), e
}

// CheckLost returns ErrProof unless this proves that the volume lost is at most, or at least, so much.
func CheckLost(s api.Scene, cells []int, from, to, volume int, most bool, flow []int) api.Errno {
	f, e := read(s)
	if e != api.OK {
		return e
	}
	w, is := f.weights(cells, from, to, most)
	if !is {
		return api.ErrArg
	}
	return diffs.CheckFlow(f.net, w, bound(volume, most), flow)
}

// weights returns the weights of which the volume that cells lose from a day to another one is the sum, or its opposite unless most is true; and whether the cells and the days are as functions take them.
func (f frame) weights(cells []int, from, to int, most bool) ([]int, bool) {
	first, isFirst := f.findAll(cells, from)
	last, isLast := f.findAll(cells, to)
	if !isFirst || !isLast || from >= to {
		return nil, false
	}
	w := make([]int, f.net.Nodes)
	for i := range len(cells) {
		w[first[i]] = f.area(first[i])
		w[last[i]] = -f.area(last[i])
	}
	if most {
		return w, true
	}
	return opposites(w), true
}

func opposites(l []int) []int {
	opposite := make([]int, len(l))
	for i, x := range l {
		opposite[i] = -x
	}
	return opposite
}
