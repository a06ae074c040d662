package diffs

import (
	"slices"

	"snowline/api"
)

// Solve returns numbers that fulfil all differences of n.
func Solve(n api.Net) ([]int, api.Errno) {
	if e := Check(n); e != api.OK {
		return nil, e
	}
	x, is := settle(n)
	if !is {
		return nil, api.ErrClash
	}
	return x, api.OK
}

// Clash returns differences that cannot be fulfilled together, in the order of a round, and whether there are such.
func Clash(n api.Net) ([]int, bool, api.Errno) {
	if e := Check(n); e != api.OK {
		return nil, false, e
	}
	l := newTrial(n).run()
	return l, len(l) > 0, api.OK
}

// CheckClash returns ErrProof unless differences cannot be fulfilled together.
func CheckClash(n api.Net, l []int) api.Errno {
	if e := Check(n); e != api.OK {
		return e
	}
	if !areIndices(n, l) {
		return api.ErrArg
	}
	if w := (walk{n, l}); !w.isRound() || !isAtMost(w, -1) {
		return api.ErrProof
	}
	return api.OK
}

// settle returns an assignment of n whose numbers are less than MaxNodes * MaxMost in size, and whether there is one.
func settle(n api.Net) ([]int, bool) {
	t := newTrial(n)
	if len(t.run()) > 0 {
		return nil, false
	}
	return above0(t.x), true
}

// trial is numbers that are lowered, from 0, until they fulfil all differences of a net.
type trial struct {
	net api.Net
	x   []int
	by  []int // by which difference each number was lowered last
}

func newTrial(n api.Net) trial {
	return trial{net: n, x: make([]int, n.Nodes), by: slices.Repeat([]int{none}, n.Nodes)}
}

// run lowers numbers until all differences are fulfilled, and returns nil, or until they were lowered around a round, and returns that.
func (t trial) run() []int {
	var at int
	for t.lower() {
		// Each number that is lowered in a pass was lowered by one that was lowered in this pass or the one ahead of it: after as many passes as there are nodes a round is there at the latest.
		seen := make([]int, t.net.Nodes) // at each node: from which node, counted from 1, it was come to
		for first := range t.net.Nodes {
			for at = first; t.by[at] != none; at = t.from(at) {
				if seen[at] == first+1 {
					goto round
				}
				if seen[at] != 0 {
					break
				}
				seen[at] = first + 1
			}
		}
	}
	return nil
round:
	return t.roundTo(at)
}

// lower goes through all differences once, and reports whether it has lowered a number.
func (t trial) lower() bool {
	is := false
	for i, d := range t.net.Diffs {
		if most := t.x[d.From] + d.Most; most < t.x[d.To] {
			t.x[d.To] = most
			t.by[d.To] = i
			is = true
		}
	}
	return is
}

// from returns the node by whose number that at a node was lowered.
func (t trial) from(node int) int { return t.net.Diffs[t.by[node]].From }

// roundTo returns the round that lowered the number at a node of it.
func (t trial) roundTo(node int) []int {
	l := []int{t.by[node]}
	for at := t.from(node); at != node; at = t.from(at) {
		l = append(l, t.by[at])
	}
	slices.Reverse(l)
	return l
}
