package crew

import (
	"slices"

	"snowline/api"
)

const (
	maxLoad = 200 // the greatest Load of a crew
	maxWalk = 64  // how many tracks a walk that is given has at most
)

// isCrew reports whether c is a crew of r.
func isCrew(r api.Range, c api.Crew) bool {
	return hasKind(r, c.Hut, api.HutT) && isIn(c.Work, 0, api.MaxMinutes) && isIn(c.Load, 0, maxLoad)
}

// areCourses reports whether l is a list of courses of r to visit.
func areCourses(r api.Range, l []int) bool {
	return len(l) <= api.MaxVisits && isIncreasing(l) && !slices.ContainsFunc(l, func(no int) bool { return !hasKind(r, no, api.CourseT) })
}

// hasKind reports whether no is the No of a site of r of a kind.
func hasKind(r api.Range, no, kind int) bool {
	return slices.ContainsFunc(r.Sites, func(x api.Site) bool { return x.No == no && x.Kind == kind })
}

// findTracks returns the tracks with the numbers of l, and whether l is a list of tracks of r as functions take it.
func findTracks(r api.Range, l []int) ([]api.Track, bool) {
	if len(l) > maxWalk {
		return nil, false
	}
	var walk []api.Track
	for _, no := range l {
		at := slices.IndexFunc(r.Tracks, func(x api.Track) bool { return x.No == no })
		if at < 0 {
			return nil, false
		}
		walk = append(walk, r.Tracks[at])
	}
	return walk, true
}

// areCells reports whether l is a list of cells of s as functions take it.
func areCells(s api.Scene, l []int) bool {
	return isIn(len(l), 1, api.MaxCells) && isIncreasing(l) && !slices.ContainsFunc(l, func(no int) bool { return cellAt(s, no) < 0 })
}

// cellAt returns the index of the cell of s with a No, or -1 if there is none.
func cellAt(s api.Scene, no int) int {
	return slices.IndexFunc(s.Basin.Cells, func(x api.Cell) bool { return x.No == no })
}

// isIncreasing reports whether each element of l is greater than the one before it.
func isIncreasing(l []int) bool {
	for i := 1; i < len(l); i++ {
		if l[i] <= l[i-1] {
			return false
		}
	}
	return true
}
