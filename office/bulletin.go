package office

import (
	"slices"

	"snowline/api"
)

// tell tells a bulletin of an office, and returns it.
func (y *Model) tell(office int, x subject) (api.Bulletin, api.Errno) {
	now := y.read(office)
	volume, e := now.volumeBy(x)
	if e != api.OK {
		return api.Bulletin{}, e
	}
	d := &y.desks[office]
	b := api.Bulletin{No: len(d.told), Day: y.day, Valley: x.valley, Date: x.date, Lo: volume.Lo, Hi: volume.Hi}
	for _, c := range now.counting() {
		b.Rests = append(b.Rests, c.No)
	}
	if then, is := d.today[x]; is {
		b.Named = dropped(then, now)
		b.Anew = isAnew(then, now, x.valley)
	}
	d.told = append(d.told, b)
	d.today[x] = now
	return b, api.OK
}

// dropped returns the numbers of the sheets that counted then and do not count now.
func dropped(then, now findings) []int {
	counting := now.counting()
	var out []int
	for _, c := range then.counting() {
		if !slices.ContainsFunc(counting, func(d counted) bool { return isSameSheet(c.Sheet, d.Sheet) }) {
			out = append(out, c.No)
		}
	}
	return out
}

// isAnew reports whether something else than sheets was dropped, or is another one, on which what was told then of a valley rested.
func isAnew(then, now findings, valley int) bool {
	isKept := isSameBasin(then.basin, now.basin) &&
		slices.Equal(then.cellsOf(valley), now.cellsOf(valley)) &&
		isSameClimate(then, now) &&
		contains(now.scales, then.scales, hasTests) &&
		contains(now.log, then.log, func(w, v api.Weather) bool { return w == v }) &&
		contains(now.pillows, then.pillows, isLike) &&
		contains(now.gauges(), then.gauges(), isLonger) &&
		contains(then.todays(), now.todays(), isSameSpring)
	return !isKept
}

// contains reports whether for each element of parts there is one of l that fits it.
func contains[E any](l, parts []E, fits func(x, part E) bool) bool {
	for _, part := range parts {
		if !slices.ContainsFunc(l, func(x E) bool { return fits(x, part) }) {
			return false
		}
	}
	return true
}

// hasTests reports whether s is the scale t, with all tests of it.
func hasTests(s, t api.Scale) bool {
	return s.No == t.No && s.Rate == t.Rate && contains(s.Tests, t.Tests, func(x, y api.Test) bool { return x == y })
}

// isLonger reports whether the log of q is a beginning of that of the same pillow p.
func isLonger(p, q api.Pillow) bool {
	return p.No == q.No && len(p.Log) >= len(q.Log) && slices.Equal(p.Log[:len(q.Log)], q.Log)
}
