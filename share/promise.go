package share

import (
	"slices"

	"snowline/api"
)

// take returns the stream of a share in which the rights take as much of volumes as can be taken together, for each node whether more could flow to it, and whether they take all.
func take(s api.Share, volumes []int) (w *stream, reached []int, all bool) {
	w = newStream(s)
	for i, x := range volumes {
		w.ask(i, x)
	}
	reached = w.fill()
	for i, x := range volumes {
		if w.taken(i) < x {
			return w, reached, false
		}
	}
	return w, reached, true
}

// promise returns what is promised to the rights of a share that is valid, but for the size of its volumes.
func promise(s api.Share) []int {
	w := newStream(s)
	var l []int
	for i, x := range s.Rights {
		w.ask(i, x.Claim)
		w.fill()
		l = append(l, w.taken(i))
	}
	return l
}

// promiseLast returns what is promised to the last right. The elder ones together are promised as much as they can take at all, so they need not be filled one after the other.
func promiseLast(s api.Share) int {
	w, last := newStream(s), len(s.Rights)-1
	for i, x := range s.Rights[:last] {
		w.ask(i, x.Claim)
	}
	w.fill()
	w.ask(last, s.Rights[last].Claim)
	w.fill()
	return w.taken(last)
}

// Enough reports whether volumes of all rights can be taken together.
func Enough(s api.Share, volumes []int) (bool, api.Errno) {
	if e := checkVolumes(s, volumes); e != api.OK {
		return false, e
	}
	_, _, all := take(s, volumes)
	return all, api.OK
}

// Promise returns how much each right is promised: as much as the elder ones leave.
func Promise(s api.Share) ([]int, api.Errno) {
	if e := CheckShare(s); e != api.OK {
		return nil, e
	}
	return promise(s), api.OK
}

// Short returns the indices of the rights that are promised less than they claim.
func Short(s api.Share) ([]int, api.Errno) {
	if e := CheckShare(s); e != api.OK {
		return nil, e
	}
	var short []int
	for i, x := range promise(s) {
		if x < s.Rights[i].Claim {
			short = append(short, i)
		}
	}
	return short, api.OK
}

// Need returns the least volume that has to come more in a valley by a day, and in time, so that a right is promised what it claims, and whether that helps.
func Need(s api.Share, right, valley, day int) (int, bool, api.Errno) {
	if e := CheckShare(s); e != api.OK {
		return 0, false, e
	}
	if !isIn(right, 0, len(s.Rights)-1) || !isNo(valley) || !isDay(day) {
		return 0, false, api.ErrArg
	}
	at := slices.IndexFunc(s.Supplies, func(x api.Supply) bool { return x.Valley == valley && x.Day >= day })
	if at < 0 {
		return 0, false, api.OK
	}
	s.Rights = s.Rights[:right+1] // younger rights change nothing
	all := 0
	for _, x := range s.Rights {
		all += x.Claim
	}
	// More water never makes a promise less, and more than all that is claimed is no use.
	short := greatest(-1, all, func(more int) bool {
		return promiseLast(withMore(s, at, more)) < s.Rights[right].Claim
	})
	if short == all {
		return 0, false, api.OK
	}
	return short + 1, true, api.OK
}

// withMore returns s with a greater volume of a supply.
func withMore(s api.Share, at, more int) api.Share {
	s.Supplies = slices.Clone(s.Supplies)
	s.Supplies[at].Volume += more
	return s
}

// greatest returns the greatest number from least to most that fulfils a condition; least does, and no number behind one that does not.
func greatest[N ~int | ~int64](least, most N, holds func(N) bool) N {
	for least < most {
		middle := most - (most-least)/2
		if holds(middle) {
			least = middle
		} else {
			most = middle - 1
		}
	}
	return least
}
