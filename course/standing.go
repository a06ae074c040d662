package course

import (
	"slices"

	"snowline/api"
)

// Standing returns the indices of the sheets that count, as known on a day.
func Standing(l []api.Sheet, withdrawn []int, known int) ([]int, api.Errno) {
	if e := checkSheets(l); e != api.OK {
		return nil, e
	}
	if !increasing(withdrawn, api.MaxNo) || !isDay(known) {
		return nil, api.ErrArg
	}
	var out []int
	for i, s := range l {
		_, gone := slices.BinarySearch(withdrawn, s.No)
		if !gone && stands(l, i, asOf(known).knows) {
			out = append(out, i)
		}
	}
	return out, api.OK
}

// stands reports whether the sheet i is known and no other one with its No takes its place.
func stands(l []api.Sheet, i int, knows func(int) bool) bool {
	if !knows(l[i].Known) {
		return false
	}
	for j, s := range l {
		if s.No != l[i].No || !knows(s.Known) {
			continue
		}
		if s.Known > l[i].Known || s.Known == l[i].Known && j > i {
			return false
		}
	}
	return true
}

// Corrected returns the indices of the sheets whose water is another one as known on two days.
func Corrected(c api.Scale, l []api.Sheet, before, after int) ([]int, api.Errno) {
	if e := CheckScale(c); e != api.OK {
		return nil, e
	}
	if e := checkSheets(l); e != api.OK {
		return nil, e
	}
	if !isDay(before) || !isDay(after) {
		return nil, api.ErrArg
	}
	var out []int
	for i, s := range l {
		if s.Scale == c.No && differs(c, s, before, after) {
			out = append(out, i)
		}
	}
	return out, api.OK
}

// differs reports whether the water of s is another one, or has another error, as known on two days.
func differs(c api.Scale, s api.Sheet, before, after int) bool {
	a, ea := Course(c, s, before)
	b, eb := Course(c, s, after)
	return a != b || ea != eb
}

// checkSheets returns the first error of a list of sheets.
func checkSheets(l []api.Sheet) api.Errno {
	if len(l) > api.MaxSights {
		return api.ErrLimit
	}
	for _, s := range l {
		if e := CheckSheet(s); e != api.OK {
			return e
		}
	}
	return api.OK
}
