package spring

import (
	"iter"

	"snowline/api"
)

// place is where snow lies: how much colder it is there than at the base of the climate, and the factor by which the snow melts.
type place struct{ colder, factor int }

func placeAt(c api.Climate, height, factor int) place {
	return place{colder: roundedDown(c.Lapse*(height-c.Base), 100), factor: factor}
}

// temp returns the temperature at p, if it is so at the base.
func (p place) temp(base int) int { return base - p.colder }

// fall returns how much snow and how much rain falls on the day of w.
func (p place) fall(w api.Weather) (snow, rain int) {
	if p.temp(w.Temp) <= 0 {
		return w.Rain, 0
	}
	return 0, w.Rain
}

// melt returns the melt of the day of w.
func (p place) melt(w api.Weather) int { return p.factor * max(0, p.temp(w.Temp)) / 1000 }

// pass returns what comes on the day of w, if there is so much snow on its morning, and what is left of it on the next one.
func (p place) pass(w api.Weather, snow int) (comes, left int) {
	fresh, rain := p.fall(w)
	left = max(0, snow+fresh-p.melt(w))
	return rain + snow + fresh - left, left
}

// release returns what comes on successive days, if there is so much snow on the morning of the first one, and what is left of it behind the last one.
func (p place) release(days iter.Seq[api.Weather], snow int) (comes, left int) {
	left = snow
	for w := range days {
		more, rest := p.pass(w, left)
		comes, left = comes+more, rest
	}
	return comes, left
}

// roundedDown returns x, divided by a number above 0.
func roundedDown(x, by int) int {
	if x%by < 0 {
		return x/by - 1
	}
	return x / by
}
