package spring

import (
	"cmp"
	"iter"
	"math"
	"slices"

	"snowline/api"
	"snowline/basin"
)

// never is the day by which a volume comes that does not come by the end of a spring.
const never = api.MaxDay + 2

// Volume returns the least and the greatest volume that comes from cells of a scene in a spring, from a day to another one.
func Volume(c api.Climate, s api.Spring, x api.Scene, cells []int, from, to int) (api.Span, api.Errno) {
	return Volumes(c, []api.Spring{s}, x, cells, from, to)
}

// Volumes returns the least and the greatest one in all springs.
func Volumes(c api.Climate, springs []api.Spring, x api.Scene, cells []int, from, to int) (api.Span, api.Errno) {
	if e := checkSprings(c, springs); e != api.OK {
		return api.Span{}, e
	}
	if e := basin.Check(x); e != api.OK {
		return api.Span{}, e
	}
	if len(springs) == 0 {
		return api.Span{}, api.ErrNone
	}
	for _, s := range springs {
		if !follows(s, x) || !isOf(s, from) || !isOf(s, to) {
			return api.Span{}, api.ErrArg
		}
	}
	indices, is := find(x.Basin, cells)
	if !is || from > to {
		return api.Span{}, api.ErrArg
	}
	v, e := newValley(c, x, indices)
	if e != api.OK {
		return api.Span{}, e
	}
	all := api.Span{Lo: math.MaxInt}
	for _, s := range springs {
		one := v.volumes(s, from, to)
		all = api.Span{Lo: min(all.Lo, one.Lo), Hi: max(all.Hi, one.Hi)}
	}
	return all, api.OK
}

// When returns the first day by which so much has come from cells of a scene in a spring, at the earliest and at the latest, and whether it can come at all.
func When(c api.Climate, s api.Spring, x api.Scene, cells []int, volume int) (api.Span, bool, api.Errno) {
	if e := CheckSpring(c, s); e != api.OK {
		return api.Span{}, false, e
	}
	if e := basin.Check(x); e != api.OK {
		return api.Span{}, false, e
	}
	indices, is := find(x.Basin, cells)
	if !is || !follows(s, x) || !isIn(volume, 0, api.MaxVolume) {
		return api.Span{}, false, api.ErrArg
	}
	v, e := newValley(c, x, indices)
	if e != api.OK {
		return api.Span{}, false, e
	}
	// More snow and a greater factor never make what has come less.
	suffices := func(come int) bool { return come >= volume }
	earliest, is := first(v.come(s, c.Factor.Hi, v.greatest), suffices)
	if !is {
		return api.Span{}, false, api.OK
	}
	latest, is := first(v.come(s, c.Factor.Lo, v.least), suffices)
	if !is {
		latest = never
	}
	return api.Span{Lo: earliest, Hi: latest}, true, api.OK
}

// valley is cells of a scene in a climate, with the least and the greatest water of each on the last day that is looked at.
type valley struct {
	climate         api.Climate
	cells           []api.Cell
	least, greatest []int
}

// newValley returns the valley of the cells of x with these indices; ErrClash if x allows no field.
func newValley(c api.Climate, x api.Scene, indices []int) (valley, api.Errno) {
	least, e := basin.Least(x)
	if e != api.OK {
		return valley{}, e
	}
	greatest, e := basin.Greatest(x)
	if e != api.OK {
		return valley{}, e
	}
	v := valley{climate: c}
	last := len(x.Days) - 1
	for _, i := range indices {
		v.cells = append(v.cells, x.Basin.Cells[i])
		v.least = append(v.least, least[last][i])
		v.greatest = append(v.greatest, greatest[last][i])
	}
	return v, api.OK
}

// volumes returns the least and the greatest volume that comes in s from a day to another one. More snow never makes it less, but a greater factor can: what melts earlier does not melt later.
func (v valley) volumes(s api.Spring, from, to int) api.Span {
	all := api.Span{Lo: math.MaxInt}
	factor := v.climate.Factor
	for i := range factor.Hi - factor.Lo + 1 {
		all.Lo = min(all.Lo, v.volume(s, factor.Lo+i, v.least, from, to))
		all.Hi = max(all.Hi, v.volume(s, factor.Lo+i, v.greatest, from, to))
	}
	return all
}

// volume returns the volume that comes in s from a day to another one.
func (v valley) volume(s api.Spring, factor int, water []int, from, to int) int {
	volume := 0
	for day, come := range v.come(s, factor, water) {
		if day == from {
			volume -= come
		}
		if day == to {
			volume += come
			break
		}
	}
	return volume
}

// come goes through the days from the first one of s to its end, with the volume that has come by each of them, if the cells have so much water on the first one.
func (v valley) come(s api.Spring, factor int, water []int) iter.Seq2[int, int] {
	return func(yield func(day, volume int) bool) {
		left := slices.Clone(water)
		volume := 0
		if !yield(s.Days[0].Day, volume) {
			return
		}
		for _, w := range s.Days {
			for i, cell := range v.cells {
				comes, rest := placeAt(v.climate, cell.Height, factor).pass(w, left[i])
				volume += cell.Area * comes
				left[i] = rest
			}
			if !yield(w.Day+1, volume) {
				return
			}
		}
	}
}

// find returns the indices of the cells with these No, and whether these are a list of cells of b as functions take them.
func find(b api.Basin, cells []int) ([]int, bool) {
	if len(cells) == 0 || !isIncreasing(cells) {
		return nil, false
	}
	var l []int
	for _, no := range cells {
		i, is := slices.BinarySearchFunc(b.Cells, no, func(c api.Cell, no int) int { return cmp.Compare(c.No, no) })
		if !is {
			return nil, false
		}
		l = append(l, i)
	}
	return l, true
}

// follows reports whether s begins on the last day that is looked at in x.
func follows(s api.Spring, x api.Scene) bool { return s.Days[0].Day == x.Days[len(x.Days)-1] }
