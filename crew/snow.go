package crew

import (
	"slices"

	"snowline/api"
	"snowline/basin"
)

// snow is the greatest water of each cell on a day, by its No.
type snow map[int]int

// newSnow returns the snow on a day of s; areRight tells whether the arguments beside r, s and day are as they have to be.
func newSnow(r api.Range, s api.Scene, day int, areRight bool) (snow, api.Errno) {
	if e := CheckRange(r); e != api.OK {
		return nil, e
	}
	if e := basin.Check(s); e != api.OK {
		return nil, e
	}
	at := slices.Index(s.Days, day)
	if at < 0 || !areRight {
		return nil, api.ErrArg
	}
	greatest, e := basin.Greatest(s)
	if e != api.OK {
		return nil, e
	}
	most := snow{}
	for i, c := range s.Basin.Cells {
		most[c.No] = greatest[at][i]
	}
	return most, api.OK
}

// carries reports whether t is safe.
func (most snow) carries(t api.Track) bool {
	if t.Steep <= steady {
		return true
	}
	water, is := most[t.Cell]
	return is && water <= bears(t.Steep)
}

// safe returns those tracks of l that are safe.
func (most snow) safe(l []api.Track) []api.Track { return chosen(most, l, snow.carries) }

// chosen returns the elements of l for which something that is asked says so.
func chosen[Asked, E any](asked Asked, l []E, is func(Asked, E) bool) []E {
	var some []E
	for _, x := range l {
		if is(asked, x) {
			some = append(some, x)
		}
	}
	return some
}

// Safe reports whether no field that is allowed breaks on a track on a day.
func Safe(r api.Range, s api.Scene, track, day int) (bool, api.Errno) {
	l, isFound := findTracks(r, []int{track})
	most, e := newSnow(r, s, day, isFound)
	if e != api.OK {
		return false, e
	}
	return len(most.safe(l)) == len(l), api.OK
}

// Open returns the numbers of the tracks that are safe on a day.
func Open(r api.Range, s api.Scene, day int) ([]int, api.Errno) {
	most, e := newSnow(r, s, day, true)
	if e != api.OK {
		return nil, e
	}
	return numbers(most.safe(r.Tracks)), api.OK
}

// numbers returns the No of each track of l.
func numbers(l []api.Track) []int {
	var numbers []int
	for _, t := range l {
		numbers = append(numbers, t.No)
	}
	return numbers
}
