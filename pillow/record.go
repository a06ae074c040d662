package pillow

import "snowline/api"

// weather is by how much the load can change from each entry to the next one.
type weather []api.Span

// between returns by how much the load can change from an entry to a later one.
func (w weather) between(i, k int) api.Span {
	var sum api.Span
	for _, s := range w[i:k] {
		sum = plus(sum, s)
	}
	return sum
}

// record is a valid pillow and its valid weather.
type record struct {
	gauge
	weather
}

// read returns the record of p and w.
func read(p api.Pillow, w []api.Span) (record, api.Errno) {
	if e := Check(p); e != api.OK {
		return record{}, e
	}
	if len(w) != max(0, len(p.Log)-1) {
		return record{}, api.ErrArg
	}
	for _, s := range w {
		if s.Lo > s.Hi || s.Lo < -api.MaxWater || s.Hi > api.MaxWater {
			return record{}, api.ErrArg
		}
	}
	return record{gauge{p}, w}, api.OK
}

// readCase returns the record of p and w, if l is a case of it.
func readCase(p api.Pillow, w []api.Span, l []int) (record, api.Errno) {
	r, e := read(p, w)
	if e != api.OK {
		return record{}, e
	}
	return r, CheckCase(p, l)
}

// reached returns the loads that an entry allows in a state, behind loads of the entry ahead of it, if there is one.
func (r record) reached(entry, state int, ahead api.Span) api.Span {
	s := r.allowed(entry, state)
	if entry == 0 {
		return s
	}
	return meet(s, plus(ahead, r.between(entry-1, entry)))
}
