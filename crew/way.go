package crew

import "snowline/api"

// Way returns the tracks of a quickest safe way between two sites, its minutes, and whether there is one.
func Way(r api.Range, s api.Scene, day, from, to int) ([]int, int, bool, api.Errno) {
	w, e := newOpenWeb(r, s, day, hasSite(r, from) && hasSite(r, to))
	if e != api.OK {
		return nil, 0, false, e
	}
	i, j := w.place(from), w.place(to)
	if w.minutes[i][j] == never {
		return nil, 0, false, api.OK
	}
	return w.walk(i, j), w.minutes[i][j], true, api.OK
}

// Cut returns the sites that can be reached from a site on safe tracks, and whether another one is not among them.
func Cut(r api.Range, s api.Scene, day, from, to int) ([]int, bool, api.Errno) {
	w, e := newOpenWeb(r, s, day, hasSite(r, from) && hasSite(r, to))
	if e != api.OK {
		return nil, false, e
	}
	far := w.minutes[w.place(from)]
	if far[w.place(to)] < never {
		return nil, false, api.OK
	}
	return w.numbersWhere(func(i int) bool { return far[i] < never }), true, api.OK
}

// Reach returns the sites that can be reached from a site on safe tracks and left again to a hut in daylight.
func Reach(r api.Range, s api.Scene, c api.Crew, day int) ([]int, api.Errno) {
	w, e := newOpenWeb(r, s, day, isCrew(r, c))
	if e != api.OK {
		return nil, e
	}
	p, hut := newParty(c), w.place(c.Hut)
	return w.numbersWhere(func(i int) bool {
		_, back := w.nearestHut(i)
		return p.takes(w.minutes[hut][i]+back, 0) <= light(day)
	}), api.OK
}
