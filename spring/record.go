package spring

import (
	"cmp"
	"iter"
	"slices"

	"snowline/api"
)

// record is a valid climate with a log of it.
type record struct {
	climate api.Climate
	log     []api.Weather
}

// read returns the record of a climate and a log.
func read(c api.Climate, l []api.Weather) (record, api.Errno) {
	if e := CheckLog(c, l); e != api.OK {
		return record{}, e
	}
	return record{c, l}, api.OK
}

// Gap returns the temperatures and the precipitation that are possible on a day, by a log.
func Gap(c api.Climate, l []api.Weather, day int) (api.Span, api.Span, api.Errno) {
	r, e := read(c, l)
	if e != api.OK {
		return api.Span{}, api.Span{}, e
	}
	if !isDay(day) {
		return api.Span{}, api.Span{}, api.ErrArg
	}
	temp, rain := r.gap(day)
	return temp, rain, api.OK
}

// Allowed reports whether the weather of successive days agrees with a log.
func Allowed(c api.Climate, l []api.Weather, days []api.Weather) (bool, api.Errno) {
	r, e := read(c, l)
	if e != api.OK {
		return false, e
	}
	if !isIn(len(days), 1, api.MaxWeather) || !areSuccessive(days) {
		return false, api.ErrArg
	}
	return isSequence(c, days) && r.admits(days), api.OK
}

// Fill returns the weather of successive days that agrees with a log, as warm or as cold as possible.
func Fill(c api.Climate, l []api.Weather, from, to int, warm bool) ([]api.Weather, api.Errno) {
	r, e := read(c, l)
	if e != api.OK {
		return nil, e
	}
	if e := checkDays(from, to); e != api.OK {
		return nil, e
	}
	return slices.Collect(r.fill(from, to, warm)), api.OK
}

// Fits reports whether a spring agrees with a log.
func Fits(c api.Climate, l []api.Weather, s api.Spring) (bool, api.Errno) {
	r, e := read(c, l)
	if e != api.OK {
		return false, e
	}
	if e := CheckSpring(c, s); e != api.OK {
		return false, e
	}
	return r.admits(s.Days), api.OK
}

// Left returns the numbers of the springs that agree with a log.
func Left(c api.Climate, l []api.Weather, springs []api.Spring) ([]int, api.Errno) {
	r, e := read(c, l)
	if e != api.OK {
		return nil, e
	}
	if e := checkSprings(c, springs); e != api.OK {
		return nil, e
	}
	var numbers, left []int
	for _, s := range springs {
		numbers = append(numbers, s.No)
		if r.admits(s.Days) {
			left = append(left, s.No)
		}
	}
	if !isIncreasing(numbers) {
		return nil, api.ErrArg
	}
	return left, api.OK
}

// checkDays returns the error of days of which those from one to the day before another one are asked for.
func checkDays(from, to int) api.Errno {
	if !isDay(from) || !isDay(to) || from >= to {
		return api.ErrArg
	}
	if to-from > api.MaxWeather {
		return api.ErrLimit
	}
	return api.OK
}

// gap returns the temperatures and the precipitation that are possible on a day.
func (r record) gap(day int) (temp, rain api.Span) {
	temp = api.Span{Lo: r.climate.Coldest, Hi: r.climate.Warmest}
	rain = api.Span{Lo: 0, Hi: r.climate.Wettest}
	for _, w := range r.beside(day) {
		far := r.climate.Swing * max(day-w.Day, w.Day-day)
		temp = api.Span{Lo: max(temp.Lo, w.Temp-far), Hi: min(temp.Hi, w.Temp+far)}
		if w.Day == day {
			rain = api.Span{Lo: w.Rain, Hi: w.Rain}
		}
	}
	return temp, rain
}

// beside returns the weather of the log on a day, or, if there is none, the last one before it and the first one behind it. No other one bounds the day more closely, as these keep to Swing themselves.
func (r record) beside(day int) []api.Weather {
	i, is := slices.BinarySearchFunc(r.log, day, func(w api.Weather, day int) int { return cmp.Compare(w.Day, day) })
	from, to := max(0, i-1), min(i+1, len(r.log))
	if is {
		from = i
	}
	return r.log[from:to:to]
}

// admits reports whether a sequence agrees with the log. It does if each of its days does: between its ends and the log, temperatures can go straight from one to the other.
func (r record) admits(sequence []api.Weather) bool {
	for _, w := range sequence {
		temp, rain := r.gap(w.Day)
		if !isIn(w.Temp, temp.Lo, temp.Hi) || !isIn(w.Rain, rain.Lo, rain.Hi) {
			return false
		}
	}
	return true
}

// fill goes through the weather of successive days, as warm and dry, or as cold and wet as possible. The greatest temperatures of successive days never differ by more than Swing, nor do the least ones.
func (r record) fill(from, to int, warm bool) iter.Seq[api.Weather] {
	return func(yield func(api.Weather) bool) {
		for i := range to - from {
			temp, rain := r.gap(from + i)
			w := api.Weather{Day: from + i, Temp: temp.Lo, Rain: rain.Hi}
			if warm {
				w.Temp, w.Rain = temp.Hi, rain.Lo
			}
			if !yield(w) {
				return
			}
		}
	}
}
