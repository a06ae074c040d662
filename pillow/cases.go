package pillow

import (
	"slices"

	"snowline/api"
)

// Cases returns all cases that remain, by the changes that the weather allows between entries.
func Cases(p api.Pillow, w []api.Span) ([][]int, api.Errno) {
	r, e := read(p, w)
	if e != api.OK {
		return nil, e
	}
	return r.cases()
}

// Tree returns how many beginnings of cases remain, by their length.
func Tree(p api.Pillow, w []api.Span) ([]int, api.Errno) {
	r, e := read(p, w)
	if e != api.OK {
		return nil, e
	}
	var counts []int
	level := []beginning{r.begin()}
	for range p.Log {
		var next []beginning
		for _, b := range level {
			next = append(next, r.further(b)...)
		}
		if len(next) > api.MaxCases {
			return nil, api.ErrLimit
		}
		counts = append(counts, len(next))
		level = next
	}
	return counts, api.OK
}

// Parted returns the first entry at which two cases differ, and whether they do.
func Parted(p api.Pillow, a, b []int) (int, bool, api.Errno) {
	for _, l := range [][]int{a, b} {
		if e := CheckCase(p, l); e != api.OK {
			return 0, false, e
		}
	}
	for entry, state := range a {
		if state != b[entry] {
			return entry, true, api.OK
		}
	}
	return 0, false, api.OK
}

// beginning is a case of the first entries that remains: the place to which it has come, its states, and the loads that are possible at that place.
type beginning struct {
	place
	states []int
	loads  api.Span
}

// begin returns the beginning without entries.
func (r record) begin() beginning { return beginning{place: r.start()} }

// further returns the beginnings with one more entry than b, in lexicographic order.
func (r record) further(b beginning) []beginning {
	var l []beginning
	for _, p := range r.next(b.place) {
		loads := r.reached(p.entry, p.state, b.loads)
		if !isEmpty(loads) {
			l = append(l, beginning{p, append(slices.Clone(b.states), p.state), loads})
		}
	}
	return l
}

// cases returns all cases that remain, or ErrLimit. It follows no beginning that comes to nothing: these can be far too many.
func (r record) cases() ([][]int, api.Errno) {
	var all [][]int
	lasts := r.lasting()
	var follow func(b beginning)
	follow = func(b beginning) {
		if r.isLast(b.entry) {
			all = append(all, b.states)
			return
		}
		for _, c := range r.further(b) {
			if len(all) <= api.MaxCases && lasts(c) {
				follow(c)
			}
		}
	}
	follow(r.begin())
	if len(all) > api.MaxCases {
		return nil, api.ErrLimit
	}
	return all, api.OK
}

// lasting returns what decides whether a beginning is that of a case of the whole log that remains.
func (r record) lasting() func(b beginning) bool {
	// The loads at a place that lead to the end of the log. Their spans are few: each of them begins where a single entry and the weather up to it say.
	known := map[place][]api.Span{}
	var open func(p place) []api.Span
	open = func(p place) []api.Span {
		if l, is := known[p]; is {
			return l
		}
		here := r.allowed(p.entry, p.state)
		var l []api.Span
		if r.isLast(p.entry) {
			l = []api.Span{here}
		} else {
			l = leading(here, r.between(p.entry, p.entry+1), r.next(p), open)
		}
		known[p] = l
		return l
	}
	return func(b beginning) bool {
		return slices.ContainsFunc(open(b.place), func(s api.Span) bool { return !isEmpty(meet(s, b.loads)) })
	}
}

// leading returns the loads of here that lead, with a change, to loads that are open at some of the places.
func leading(here, change api.Span, places []place, open func(p place) []api.Span) []api.Span {
	var l []api.Span
	for _, p := range places {
		for _, s := range open(p) {
			if from := meet(here, minus(s, change)); !isEmpty(from) {
				l = append(l, from)
			}
		}
	}
	return union(l)
}
