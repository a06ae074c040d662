package pillow

import "snowline/api"

// Possible returns all loads that are possible at an entry in some case that remains, as spans that do not touch.
func Possible(p api.Pillow, w []api.Span, entry int) ([]api.Span, api.Errno) {
	r, cases, e := casesAt(p, w, entry)
	if e != api.OK {
		return nil, e
	}
	var l []api.Span
	for _, c := range cases {
		// Within a case, every load between the ends occurs.
		if spans, is := r.loads(c); is {
			l = append(l, spans[entry])
		}
	}
	return union(l), api.OK
}

// Hull returns the least and the greatest of them.
func Hull(p api.Pillow, w []api.Span, entry int) (api.Span, api.Errno) {
	l, e := Possible(p, w, entry)
	if e != api.OK {
		return api.Span{}, e
	}
	if len(l) == 0 {
		return api.Span{}, api.ErrRefuted
	}
	return api.Span{Lo: l[0].Lo, Hi: l[len(l)-1].Hi}, api.OK
}

// Sure returns the state of p at an entry, if it is the same in all cases that remain.
func Sure(p api.Pillow, w []api.Span, entry int) (int, bool, api.Errno) {
	_, cases, e := casesAt(p, w, entry)
	if e != api.OK {
		return 0, false, e
	}
	if len(cases) == 0 {
		return 0, false, api.ErrRefuted
	}
	state := cases[0][entry]
	for _, c := range cases {
		if c[entry] != state {
			return 0, false, api.OK
		}
	}
	return state, true, api.OK
}

// casesAt returns the record of p and w, which has to have the entry, and all cases that remain.
func casesAt(p api.Pillow, w []api.Span, entry int) (record, [][]int, api.Errno) {
	r, e := read(p, w)
	if e != api.OK {
		return record{}, nil, e
	}
	if !r.has(entry) {
		return record{}, nil, api.ErrArg
	}
	cases, e := r.cases()
	return r, cases, e
}
