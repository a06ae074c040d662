package spring

import (
	"iter"

	"snowline/api"
)

// At returns the temperature at a height.
func At(c api.Climate, temp, height int) (int, api.Errno) {
	if e := CheckClimate(c); e != api.OK {
		return 0, e
	}
	if !isTemp(temp) || !isHeight(height) {
		return 0, api.ErrArg
	}
	return placeAt(c, height, 0).temp(temp), api.OK
}

// Frost returns the least height at which it is not warmer than freezing.
func Frost(c api.Climate, temp int) (int, api.Errno) {
	if e := CheckClimate(c); e != api.OK {
		return 0, e
	}
	if !isTemp(temp) {
		return 0, api.ErrArg
	}
	height, is := first(upwards(c, temp), func(t int) bool { return t <= 0 })
	if !is {
		return 0, api.ErrNone
	}
	return height, api.OK
}

// Snow returns how much of the precipitation of a day falls as snow at a height, and how much as rain.
func Snow(c api.Climate, w api.Weather, height int) (int, int, api.Errno) {
	if e := checkWeather(c, w); e != api.OK {
		return 0, 0, e
	}
	if !isHeight(height) {
		return 0, 0, api.ErrArg
	}
	snow, rain := placeAt(c, height, 0).fall(w)
	return snow, rain, api.OK
}

// Melt returns how much snow can melt in a day at a height, with a factor.
func Melt(c api.Climate, w api.Weather, height, factor int) (int, api.Errno) {
	if e := checkWeather(c, w); e != api.OK {
		return 0, e
	}
	if !isHeight(height) || !isFactor(factor) {
		return 0, api.ErrArg
	}
	return placeAt(c, height, factor).melt(w), api.OK
}

// checkWeather returns ErrWeather unless w is a weather of c.
func checkWeather(c api.Climate, w api.Weather) api.Errno {
	if e := CheckClimate(c); e != api.OK {
		return e
	}
	if !isWeather(c, w) {
		return api.ErrWeather
	}
	return api.OK
}

// upwards goes through all heights, with the temperature at each of them.
func upwards(c api.Climate, temp int) iter.Seq2[int, int] {
	return func(yield func(height, temp int) bool) {
		for height := range api.MaxHeight + 1 {
			if !yield(height, placeAt(c, height, 0).temp(temp)) {
				return
			}
		}
	}
}
