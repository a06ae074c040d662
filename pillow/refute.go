package pillow

import "snowline/api"

// Refute returns two entries that show that a case does not remain, and whether there are such.
func Refute(p api.Pillow, w []api.Span, l []int) ([2]int, bool, api.Errno) {
	r, e := readCase(p, w, l)
	if e != api.OK {
		return [2]int{}, false, e
	}
	contradict := r.contradiction(l)
	for i := range l {
		for k := i + 1; k < len(l); k++ {
			if contradict(i, k) {
				return [2]int{i, k}, true, api.OK
			}
		}
	}
	return [2]int{}, false, api.OK
}

// CheckRefute returns ErrRefuted unless two entries show that a case does not remain.
func CheckRefute(p api.Pillow, w []api.Span, l []int, x [2]int) api.Errno {
	r, e := readCase(p, w, l)
	if e != api.OK {
		return e
	}
	i, k := x[0], x[1]
	if !r.has(i) || !r.has(k) || i >= k || !r.contradiction(l)(i, k) {
		return api.ErrRefuted
	}
	return api.OK
}

// contradiction returns what decides whether two entries, an earlier one and a later one, contradict each other in the case l.
func (r record) contradiction(l []int) func(i, k int) bool {
	allowed := func(entry int) api.Span { return r.allowed(entry, l[entry]) }
	return func(i, k int) bool {
		return isEmpty(meet(minus(allowed(k), allowed(i)), r.between(i, k)))
	}
}
