package basin

import (
	"slices"

	"snowline/api"
	"snowline/diffs"
)

// Clash returns the numbers of sights that cannot all be true, none of which can be left out, and whether there are such.
func Clash(s api.Scene) ([]int, bool, api.Errno) {
	f, e := read(s)
	if e != api.OK {
		return nil, false, e
	}
	round, is, e := diffs.Clash(f.net)
	if !is || e != api.OK {
		return nil, false, e
	}
	return lean(f.sheets(round), f.contradicts), true, api.OK
}

// CheckClash returns ErrProof unless the sights with these numbers cannot all be true, and all without one can.
func CheckClash(s api.Scene, l []int) api.Errno {
	f, e := read(s)
	if e != api.OK {
		return e
	}
	if !isIncreasing(l) {
		return api.ErrArg
	}
	if !isLean(l, f.contradicts) {
		return api.ErrProof
	}
	return api.OK
}

// Rests returns numbers of sights on which the bounds of cells on a day rest.
func Rests(s api.Scene, cells []int, day int) ([]int, api.Errno) {
	f, e := read(s)
	if e != api.OK {
		return nil, e
	}
	nodes, is := f.findAll(cells, day)
	if !is {
		return nil, api.ErrArg
	}
	used, e := f.used(nodes)
	if e != api.OK {
		return nil, e
	}
	return lean(f.sheets(used), f.keeps(nodes)), api.OK
}

// CheckRests returns ErrProof unless the sights with these numbers alone give the same bounds, and all without one do not.
func CheckRests(s api.Scene, cells []int, day int, l []int) api.Errno {
	f, e := read(s)
	if e != api.OK {
		return e
	}
	nodes, is := f.findAll(cells, day)
	if !is || !isIncreasing(l) {
		return api.ErrArg
	}
	if !f.isAllowed() {
		return api.ErrClash
	}
	if !isLean(l, f.keeps(nodes)) {
		return api.ErrProof
	}
	return api.OK
}

// contradicts reports whether no field is allowed by the sights of l alone.
func (f frame) contradicts(l []int) bool { return !newFrame(alone(f.scene, l)).isAllowed() }

// keeps returns a function that reports whether the bounds of nodes by the sights of l alone are the same as by all. Some field has to be allowed: then it is with fewer sights too.
func (f frame) keeps(nodes []int) func(l []int) bool {
	all, _ := f.spans(nodes)
	return func(l []int) bool {
		some, _ := newFrame(alone(f.scene, l)).spans(nodes)
		return slices.Equal(some, all)
	}
}

// used returns differences that prove all bounds of nodes.
func (f frame) used(nodes []int) ([]int, api.Errno) {
	var l []int
	for _, node := range nodes {
		up, e := f.path(node, true)
		if e != api.OK {
			return nil, e
		}
		down, e := f.path(node, false)
		if e != api.OK {
			return nil, e
		}
		l = slices.Concat(l, up, down)
	}
	return l, api.OK
}

// alone returns s with the sights of l, which is increasing, alone.
func alone(s api.Scene, l []int) api.Scene {
	var sights []api.Sight
	for _, x := range s.Sights {
		if _, is := slices.BinarySearch(l, x.No); is {
			sights = append(sights, x)
		}
	}
	s.Sights = sights
	return s
}

// sheets returns the numbers of the sights that give some of these differences, each once.
func (f frame) sheets(differences []int) []int {
	var l []int
	for _, i := range differences {
		if r := f.reasons[i]; r.Kind == api.SightR {
			l = append(l, f.scene.Sights[r.Index].No)
		}
	}
	slices.Sort(l)
	return slices.Compact(l)
}

// lean returns what remains of l, which suffices for something, if one element after the other is left out, as long as the rest suffices. More elements suffice wherever fewer do: so none of the elements that remain can be left out later.
func lean(l []int, suffices func([]int) bool) []int {
	for i := 0; i < len(l); {
		if rest := leftOut(l, i); suffices(rest) {
			l = rest
		} else {
			i++
		}
	}
	return l
}

// isLean reports whether l suffices, but does not without any one of its elements.
func isLean(l []int, suffices func([]int) bool) bool {
	if !suffices(l) {
		return false
	}
	for i := range len(l) {
		if suffices(leftOut(l, i)) {
			return false
		}
	}
	return true
}

// leftOut returns l without the element with the index i.
func leftOut(l []int, i int) []int { return slices.Concat(l[:i], l[i+1:]) }
