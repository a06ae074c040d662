package basin

import (
	"slices"

	"snowline/api"
)

// maxSheet is the greatest No of a sight.
const maxSheet = 8191

// Check returns the error of the first part of s that is not valid.
func Check(s api.Scene) api.Errno {
	if e := CheckBasin(s.Basin); e != api.OK {
		return e
	}
	if !areDays(s.Days) {
		return api.ErrArg
	}
	if len(s.Sights) > api.MaxSights || len(s.Changes) > api.MaxChanges {
		return api.ErrLimit
	}
	g := newGrid(s)
	for _, x := range s.Sights {
		if !g.hasSight(x) {
			return api.ErrSight
		}
	}
	for _, x := range s.Changes {
		if !g.hasChange(x) {
			return api.ErrChange
		}
	}
	return api.OK
}

// With returns s with a further sight.
func With(s api.Scene, x api.Sight) (api.Scene, api.Errno) {
	if e := Check(s); e != api.OK {
		return api.Scene{}, e
	}
	if len(s.Sights) == api.MaxSights {
		return api.Scene{}, api.ErrLimit
	}
	if !newGrid(s).hasSight(x) {
		return api.Scene{}, api.ErrSight
	}
	s = clone(s)
	s.Sights = append(s.Sights, x)
	return s, api.OK
}

// Without returns s without the sights with a number.
func Without(s api.Scene, no int) (api.Scene, api.Errno) {
	if e := Check(s); e != api.OK {
		return api.Scene{}, e
	}
	s = clone(s)
	s.Sights = slices.DeleteFunc(s.Sights, func(x api.Sight) bool { return x.No == no })
	return s, api.OK
}

// clone returns s in new memory.
func clone(s api.Scene) api.Scene {
	s.Basin.Cells = slices.Clone(s.Basin.Cells)
	s.Basin.Pairs = slices.Clone(s.Basin.Pairs)
	s.Days = slices.Clone(s.Days)
	s.Sights = slices.Clone(s.Sights)
	s.Changes = slices.Clone(s.Changes)
	return s
}

// areDays reports whether l is the days that are looked at in some scene.
func areDays(l []int) bool {
	return 1 <= len(l) && len(l) <= api.MaxDates && isIncreasing(l) && l[0] >= 0 && l[len(l)-1] <= api.MaxDay
}

// isIncreasing reports whether each element of l is greater than the one before it.
func isIncreasing(l []int) bool {
	for i := 1; i < len(l); i++ {
		if l[i] <= l[i-1] {
			return false
		}
	}
	return true
}
