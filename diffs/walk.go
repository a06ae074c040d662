package diffs

import "snowline/api"

// measured is what comes to a sum that bounds other ones: a walk by its length, an assignment by its value, a flow by its cost.
type measured interface {
	measure() int
}

// isAtMost reports whether m comes to at most most.
func isAtMost(m measured, most int) bool { return m.measure() <= most }

// walk is indices of differences of a net, one after the other.
type walk struct {
	net   api.Net
	diffs []int
}

// measure returns the length of w.
func (w walk) measure() int {
	length := 0
	for _, i := range w.diffs {
		length += w.net.Diffs[i].Most
	}
	return length
}

// end returns to which node w leads from another one, and whether each of its differences begins where the one ahead of it ends.
func (w walk) end(from int) (int, bool) {
	at := from
	for _, i := range w.diffs {
		d := w.net.Diffs[i]
		if d.From != at {
			return 0, false
		}
		at = d.To
	}
	return at, true
}

// isRound reports whether w leads from a node back to itself, and from no node twice.
func (w walk) isRound() bool {
	if len(w.diffs) == 0 {
		return false
	}
	left := make([]bool, w.net.Nodes)
	for _, i := range w.diffs {
		from := w.net.Diffs[i].From
		if left[from] {
			return false
		}
		left[from] = true
	}
	first := w.net.Diffs[w.diffs[0]].From
	end, is := w.end(first)
	return is && end == first
}

// areIndices reports whether each element of l is an index of a difference of n.
func areIndices(n api.Net, l []int) bool {
	for _, i := range l {
		if !isIndex(i, len(n.Diffs)) {
			return false
		}
	}
	return true
}
