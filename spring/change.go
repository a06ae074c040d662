package spring

import (
	"snowline/api"
	"snowline/basin"
)

// plenty is more snow than can melt in MaxWeather days.
const plenty = 1 << 32

// Change returns by how much the snow at a height can have changed from a day to another one, by a log.
func Change(c api.Climate, l []api.Weather, height, from, to int) (api.Span, api.Errno) {
	r, e := read(c, l)
	if e != api.OK {
		return api.Span{}, e
	}
	if !isHeight(height) {
		return api.Span{}, api.ErrArg
	}
	if e := checkDays(from, to); e != api.OK {
		return api.Span{}, e
	}
	return r.change(height, from, to), api.OK
}

// Changes returns the changes of all cells of a basin between successive days that are looked at.
func Changes(c api.Climate, l []api.Weather, b api.Basin, days []int) ([]api.Change, api.Errno) {
	r, e := read(c, l)
	if e != api.OK {
		return nil, e
	}
	if e := basin.CheckBasin(b); e != api.OK {
		return nil, e
	}
	if e := checkDates(days); e != api.OK {
		return nil, e
	}
	var changes []api.Change
	for i := range len(days) - 1 {
		from, to := days[i], days[i+1]
		for _, cell := range b.Cells {
			s := r.change(cell.Height, from, to)
			changes = append(changes, api.Change{Cell: cell.No, From: from, To: to, Lo: s.Lo, Hi: s.Hi})
		}
	}
	return changes, api.OK
}

// checkDates returns the error of days between each two of which changes are asked for.
func checkDates(days []int) api.Errno {
	if !isIn(len(days), 1, api.MaxDates) || !isIncreasing(days) || !isDay(days[0]) || !isDay(days[len(days)-1]) {
		return api.ErrArg
	}
	for i := range len(days) - 1 {
		if e := checkDays(days[i], days[i+1]); e != api.OK {
			return e
		}
	}
	return api.OK
}

// change returns by how much the snow at a height can have changed. The most is lost of plenty of snow, in warm and dry weather with the greatest factor; the most is won where there was none, in cold and wet weather with the least one.
func (r record) change(height, from, to int) api.Span {
	factor := r.climate.Factor
	_, least := placeAt(r.climate, height, factor.Hi).release(r.fill(from, to, true), plenty)
	_, greatest := placeAt(r.climate, height, factor.Lo).release(r.fill(from, to, false), 0)
	return api.Span{Lo: within(least - plenty), Hi: within(greatest)}
}

// within returns the number nearest to x that a change of water can have.
func within(x int) int { return max(-api.MaxWater, min(x, api.MaxWater)) }
