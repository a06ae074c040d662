package spring

import (
	"slices"

	"snowline/api"
)

// Release returns how much water comes from so much snow at a height by a day, and what is left of the snow.
func Release(c api.Climate, s api.Spring, height, water, factor, day int) (int, int, api.Errno) {
	if e := CheckSpring(c, s); e != api.OK {
		return 0, 0, e
	}
	if !isHeight(height) || !isIn(water, 0, api.MaxWater) || !isFactor(factor) || !isOf(s, day) {
		return 0, 0, api.ErrArg
	}
	comes, left := placeAt(c, height, factor).release(slices.Values(until(s, day)), water)
	return comes, left, api.OK
}

// isOf reports whether a day is from the first one of s to its end.
func isOf(s api.Spring, day int) bool { return isIn(day, s.Days[0].Day, s.Days[0].Day+len(s.Days)) }

// until returns the weather of s on the days before a day.
func until(s api.Spring, day int) []api.Weather {
	n := day - s.Days[0].Day
	return s.Days[:n:n]
}
