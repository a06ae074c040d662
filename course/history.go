package course

import "snowline/api"

// Drift returns how many grams too much s can have shown on a day, by the tests that are known on another day.
func Drift(s api.Scale, day, known int) (api.Span, api.Errno) {
	if e := checkAsked(s, day, known); e != api.OK {
		return api.Span{}, e
	}
	return drift(s.Rate, knownTests(s, known), day), api.OK
}

// Turn returns by how much that can have changed from one day to another one.
func Turn(s api.Scale, from, to, known int) (api.Span, api.Errno) {
	if e := checkAsked(s, from, to, known); e != api.OK {
		return api.Span{}, e
	}
	return turn(s, from, to, known), api.OK
}

// History reports whether s can have shown these grams too much on these days.
func History(s api.Scale, known int, days, grams []int) (bool, api.Errno) {
	if e := checkGiven(s, known, days, grams); e != api.OK {
		return false, e
	}
	_, is := pinned(s, known, days, grams)
	return is, api.OK
}

// Extend returns a history of s on further days that has given grams on some days, and whether there is one.
func Extend(s api.Scale, known int, days, grams, more []int) ([]int, bool, api.Errno) {
	if e := checkGiven(s, known, days, grams); e != api.OK {
		return nil, false, e
	}
	if !fewDays(more) {
		return nil, false, api.ErrArg
	}
	tests, is := pinned(s, known, days, grams)
	if !is {
		return nil, false, api.OK
	}
	out := make([]int, len(more))
	for i, day := range more {
		out[i] = drift(s.Rate, tests, day).Hi
	}
	return out, true, api.OK
}

func checkAsked(s api.Scale, days ...int) api.Errno {
	if e := CheckScale(s); e != api.OK {
		return e
	}
	for _, day := range days {
		if !isDay(day) {
			return api.ErrArg
		}
	}
	return api.OK
}

func checkGiven(s api.Scale, known int, days, grams []int) api.Errno {
	if e := checkAsked(s, known); e != api.OK {
		return e
	}
	if len(days) != len(grams) || !fewDays(days) {
		return api.ErrArg
	}
	return api.OK
}

func fewDays(l []int) bool { return len(l) <= api.MaxTests && increasing(l, api.MaxDay) }

// knownTests returns the tests of s that are known on a day.
func knownTests(s api.Scale, known int) []api.Test {
	knows := asOf(known).knows
	var l []api.Test
	for _, t := range s.Tests {
		if knows(t.Known) {
			l = append(l, t)
		}
	}
	return l
}

// pinned returns the known tests of s and one for each given drift, and whether there is a history with all of them.
func pinned(s api.Scale, known int, days, grams []int) ([]api.Test, bool) {
	l := knownTests(s, known)
	for i, day := range days {
		// A number of grams can be any int: those that no history has must not come into a difference.
		if !isDrift(grams[i]) {
			return nil, false
		}
		l = append(l, api.Test{Day: day, Lo: grams[i], Hi: grams[i]})
	}
	_, apart := firstApart(s.Rate, l)
	return l, !apart
}

// drift returns the drifts that the tests leave on a day. As no two of them contradict each other, its ends over all days are histories themselves.
func drift(rate int, tests []api.Test, day int) api.Span {
	var los, his []int
	for _, t := range tests {
		far := reach(rate, t.Day, day)
		los = append(los, t.Lo-far)
		his = append(his, t.Hi+far)
	}
	return api.Span{Lo: ends(-api.MaxGram, los...).Hi, Hi: ends(api.MaxGram, his...).Lo}
}

// turn returns the turns from one day to another one: they are bound by the rate, and by the drifts on both days.
func turn(s api.Scale, from, to, known int) api.Span {
	tests := knownTests(s, known)
	a, b := drift(s.Rate, tests, from), drift(s.Rate, tests, to)
	far := reach(s.Rate, from, to)
	return api.Span{Lo: ends(-far, b.Lo-a.Hi).Hi, Hi: ends(far, b.Hi-a.Lo).Lo}
}
