package diffs

import (
	"slices"

	"snowline/api"
)

// maxUse is how often a flow uses a difference at most.
const maxUse = 1 << 20

// bridge is longer than any path of a net.
const bridge = api.MaxNodes * api.MaxMost

// Most returns the greatest sum of the numbers, each times its weight, and whether it is bounded.
func Most(n api.Net, weights []int) (int, bool, api.Errno) {
	x, is, e := Best(n, weights)
	if !is || e != api.OK {
		return 0, false, e
	}
	var m measured = weighted{weights, x}
	return m.measure(), true, api.OK
}

// Best returns numbers with this sum, and whether there are such.
func Best(n api.Net, weights []int) ([]int, bool, api.Errno) {
	s, is, e := fill(n, weights)
	if !is || e != api.OK {
		return nil, false, e
	}
	return above0(s.x), true, api.OK
}

// Flow returns how often each difference has to be used to prove it, and whether it can be proved.
func Flow(n api.Net, weights []int) ([]int, bool, api.Errno) {
	s, is, e := fill(n, weights)
	if !is || e != api.OK {
		return nil, false, e
	}
	return slices.Clone(s.flow[:len(n.Diffs)]), true, api.OK
}

// CheckFlow returns ErrProof unless differences, used so often, prove that no sum is greater.
func CheckFlow(n api.Net, weights []int, most int, flow []int) api.Errno {
	if e := Check(n); e != api.OK {
		return e
	}
	if !areNumbers(n, weights, api.MaxArea) || len(flow) != len(n.Diffs) {
		return api.ErrArg
	}
	if slices.ContainsFunc(flow, func(use int) bool { return use < 0 || use > maxUse }) {
		return api.ErrArg
	}
	u := uses{n, flow}
	if !slices.Equal(u.comes()[1:], weights[1:]) || !isAtMost(u, most) {
		return api.ErrProof
	}
	return api.OK
}

// weighted is an assignment of which a sum is asked for.
type weighted struct{ weights, x []int }

// measure returns the sum of w. The number at the node 0, whose weight does not matter, is 0.
func (w weighted) measure() int {
	sum := 0
	for i, number := range w.x {
		sum += w.weights[i] * number
	}
	return sum
}

// uses is how often each difference of a net is used.
type uses struct {
	net  api.Net
	flow []int
}

// measure returns what u costs.
func (u uses) measure() int {
	cost := 0
	for i, d := range u.net.Diffs {
		cost += u.flow[i] * d.Most
	}
	return cost
}

// comes returns how much more comes to each node than leaves it.
func (u uses) comes() []int {
	l := make([]int, u.net.Nodes)
	for i, d := range u.net.Diffs {
		l[d.To] += u.flow[i]
		l[d.From] -= u.flow[i]
	}
	return l
}

// stream is a flow of least cost that grows until each node has as much as its weight.
type stream struct {
	graph
	lack []int // how much more has to come to each node, or, below 0, to leave it
}

// fill returns the stream for the weights when nothing lacks, and whether it needs no bridges: then it proves the greatest sum, and its numbers attain it.
func fill(n api.Net, weights []int) (stream, bool, api.Errno) {
	if e := Check(n); e != api.OK {
		return stream{}, false, e
	}
	if !areNumbers(n, weights, api.MaxArea) {
		return stream{}, false, api.ErrArg
	}
	x, is := settle(n)
	if !is {
		return stream{}, false, api.ErrClash
	}
	s := newStream(n, x, weights)
	s.run()
	bridges := s.flow[len(n.Diffs):]
	return s, !slices.ContainsFunc(bridges, func(use int) bool { return use > 0 }), api.OK
}

// newStream returns the stream in which nothing flows yet; x must be the assignment of n that settle returns.
func newStream(n api.Net, x, weights []int) stream {
	bridged := withBridges(n)
	s := stream{graph: newGraph(bridged, x), lack: slices.Clone(weights)}
	s.flow = make([]int, len(bridged.Diffs))
	for i, d := range bridged.Diffs {
		s.out[d.To] = append(s.out[d.To], link{diff: i, back: true})
	}
	s.lack[0] = 0
	for _, weight := range weights[1:] {
		s.lack[0] -= weight
	}
	return s
}

// withBridges returns n with bridges between the node 0 and each other one, there and back. By them each node is reached; and as they lie behind the differences of n, and a flow of least cost uses none that can be avoided, they tell whether the weights can be reached without them. They also keep the numbers of an assignment small.
func withBridges(n api.Net) api.Net {
	bridged := api.Net{Nodes: n.Nodes, Diffs: slices.Clone(n.Diffs)}
	for i := 1; i < n.Nodes; i++ {
		there := api.Diff{From: 0, To: i, Most: bridge}
		back := api.Diff{From: i, To: 0, Most: bridge}
		bridged.Diffs = append(bridged.Diffs, there, back)
	}
	return bridged
}

// run moves water until nothing lacks. It moves large amounts first: so the number of moves grows with the number of digits of the weights only.
func (s stream) run() {
	for much := maxUse; much > 0; much /= 2 {
		for s.move(much) {
		}
	}
}

// move moves a multiple of much along the shortest way from a node that has so much too much to one that lacks so much, and reports whether there are such.
func (s stream) move(much int) bool {
	var starts []int
	for i, lack := range s.lack {
		if lack <= -much {
			starts = append(starts, i)
		}
	}
	if len(starts) == 0 {
		return false
	}
	r := s.search(starts, func(node int) bool { return s.lack[node] >= much })
	if r.last == none {
		return false
	}
	for i, far := range r.far {
		s.x[i] += min(far, r.far[r.last]) // Measured against these numbers each link of the way has the length 0, and so has the way back.
	}
	way := s.wayTo(r, r.last)
	first, _ := s.ends(way[0])
	amount := s.room(way, min(-s.lack[first], s.lack[r.last])) / much * much
	s.push(way, amount)
	s.lack[first] += amount
	s.lack[r.last] -= amount
	return true
}

// room returns how much of an amount can be pushed along a way.
func (s stream) room(way []link, amount int) int {
	for _, l := range way {
		if l.back {
			amount = min(amount, s.flow[l.diff])
		}
	}
	return amount
}

// push pushes an amount along a way.
func (s stream) push(way []link, amount int) {
	for _, l := range way {
		if l.back {
			s.flow[l.diff] -= amount
		} else {
			s.flow[l.diff] += amount
		}
	}
}
