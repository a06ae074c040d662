package pillow

import "snowline/api"

// Alive reports whether a case remains.
func Alive(p api.Pillow, w []api.Span, l []int) (bool, api.Errno) {
	r, e := readCase(p, w, l)
	if e != api.OK {
		return false, e
	}
	_, is := r.loads(l)
	return is, api.OK
}

// Loads returns the least and the greatest load at each entry, in a case.
func Loads(p api.Pillow, w []api.Span, l []int) ([]api.Span, api.Errno) {
	r, e := readCase(p, w, l)
	if e != api.OK {
		return nil, e
	}
	spans, is := r.loads(l)
	if !is {
		return nil, api.ErrRefuted
	}
	return spans, api.OK
}

// Witness returns loads in a case with which the load at an entry is greatest, or least.
func Witness(p api.Pillow, w []api.Span, l []int, entry int, most bool) ([]int, api.Errno) {
	r, e := readCase(p, w, l)
	if e != api.OK {
		return nil, e
	}
	if !r.has(entry) {
		return nil, api.ErrArg
	}
	spans, is := r.loads(l)
	if !is {
		return nil, api.ErrRefuted
	}
	// Of two lists of possible loads, the greater ones at each entry are possible together, and so are the lesser ones: the ends of all entries are a witness for each of them.
	out := make([]int, len(spans))
	for i, s := range spans {
		out[i] = s.Lo
		if most {
			out[i] = s.Hi
		}
	}
	return out, api.OK
}

// CheckWitness returns ErrLoad unless loads are possible in a case.
func CheckWitness(p api.Pillow, w []api.Span, l, loads []int) api.Errno {
	r, e := readCase(p, w, l)
	if e != api.OK {
		return e
	}
	if len(loads) != len(l) {
		return api.ErrLoad
	}
	possible := r.possible(l, loads)
	for entry := range loads {
		if !possible(entry) {
			return api.ErrLoad
		}
	}
	return api.OK
}

// loads returns the least and the greatest load at each entry in the case l, and whether it remains.
func (r record) loads(l []int) ([]api.Span, bool) {
	spans := make([]api.Span, len(l))
	var here api.Span
	for i, state := range l {
		here = r.reached(i, state, here)
		if isEmpty(here) {
			return nil, false
		}
		spans[i] = here
	}
	for i := len(l) - 2; i >= 0; i-- {
		spans[i] = meet(spans[i], minus(spans[i+1], r.between(i, i+1)))
	}
	return spans, true
}

// possible returns what decides whether an entry allows its load, behind that of the entry ahead of it, which has to be allowed. The loads can be any ints.
func (r record) possible(l, loads []int) func(entry int) bool {
	return func(entry int) bool {
		var ahead api.Span
		if entry > 0 {
			ahead = api.Span{Lo: loads[entry-1], Hi: loads[entry-1]}
		}
		return contains(r.reached(entry, l[entry], ahead), loads[entry])
	}
}
