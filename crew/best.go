package crew

import "snowline/api"

// target is a course, and a trip to it.
type target struct {
	course int
	trip   []int
}

// Best returns the course whose measurement narrows most in the worst case, of those that a crew can visit, and whether there is one.
func Best(r api.Range, s api.Scene, c api.Crew, day int, cells []int, width int) (int, bool, api.Errno) {
	best, is, e := bestTarget(r, s, c, day, cells, width)
	return best.course, is, e
}

// Next returns the trip to it.
func Next(r api.Range, s api.Scene, c api.Crew, day int, cells []int, width int) ([]int, bool, api.Errno) {
	best, is, e := bestTarget(r, s, c, day, cells, width)
	return best.trip, is, e
}

// bestTarget returns this course and a trip to it, and whether there are such.
func bestTarget(r api.Range, s api.Scene, c api.Crew, day int, cells []int, width int) (target, bool, api.Errno) {
	w, e := newOpenWeb(r, s, day, isCrew(r, c) && areCells(s, cells) && isIn(width, 0, api.MaxWater))
	if e != api.OK {
		return target{}, false, e
	}
	v, e := newValley(s, cells, day, true)
	if e != api.OK {
		return target{}, false, e
	}
	var best target
	least, found := 0, false
	for _, x := range r.Sites {
		if x.Kind != api.CourseT || cellAt(s, x.Cell) < 0 {
			continue
		}
		trip, is := w.trip(c, day, []int{x.No})
		if !is {
			continue
		}
		worst, e := v.worst(x.Cell, width)
		if e != api.OK {
			return target{}, false, e
		}
		if !found || worst.width < least {
			best, least, found = target{x.No, trip}, worst.width, true
		}
	}
	return best, found, api.OK
}
