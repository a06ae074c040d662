package diffs

import (
	"math"
	"slices"

	"snowline/api"
)

// link is a difference as it is walked: as it is, or back.
type link struct {
	diff int
	back bool
}

// graph is a net that is laid out for searches.
type graph struct {
	net  api.Net
	x    []int    // measured against these numbers no link that can be walked is shorter than 0
	flow []int    // how often each difference is used: it can be walked back as often
	out  [][]link // the links that begin at each node
}

// newGraph returns the graph of n in which no difference can be walked back; x must fulfil all differences of n.
func newGraph(n api.Net, x []int) graph {
	g := graph{net: n, x: x, out: make([][]link, n.Nodes)}
	for i, d := range n.Diffs {
		g.out[d.From] = append(g.out[d.From], link{diff: i})
	}
	return g
}

// ends returns where l begins and ends.
func (g graph) ends(l link) (from, to int) {
	d := g.net.Diffs[l.diff]
	if l.back {
		return d.To, d.From
	}
	return d.From, d.To
}

// isOpen reports whether l can be walked.
func (g graph) isOpen(l link) bool { return !l.back || g.flow[l.diff] > 0 }

// length returns how long l is, measured against the numbers of g.
func (g graph) length(l link) int {
	from, to := g.ends(l)
	most := g.net.Diffs[l.diff].Most
	if l.back {
		most = -most
	}
	return most + g.x[from] - g.x[to]
}

// unreached is the distance of a node to which no walk was found.
const unreached = math.MaxInt

// reach is what a search has found.
type reach struct {
	far  []int  // how far each node is, measured against the numbers of the graph
	by   []link // the last link of the walk to it
	last int    // the node at which the search has ended, or none
}

// search looks for the shortest walks from the starts, the nearest nodes first, and ends at the first node for which isLast is true.
func (g graph) search(starts []int, isLast func(node int) bool) reach {
	r := reach{
		far:  slices.Repeat([]int{unreached}, g.net.Nodes),
		by:   slices.Repeat([]link{{diff: none}}, g.net.Nodes),
		last: none,
	}
	var q queue[int]
	for _, node := range starts {
		r.far[node] = 0
		q.push(0, node)
	}
	for !q.isEmpty() {
		far, node := q.pop()
		if far > r.far[node] { // A shorter walk to it was found while it waited.
			continue
		}
		if isLast(node) {
			r.last = node
			return r
		}
		for _, l := range g.out[node] {
			if !g.isOpen(l) {
				continue
			}
			_, to := g.ends(l)
			if next := far + g.length(l); next < r.far[to] {
				r.far[to] = next
				r.by[to] = l
				q.push(next, to)
			}
		}
	}
	return r
}

// searchAll looks for the shortest walks from a node to all others.
func (g graph) searchAll(from int) reach {
	return g.search([]int{from}, func(int) bool { return false })
}

// wayTo returns the walk that r has found to a node.
func (g graph) wayTo(r reach, node int) []link {
	var way []link
	for l := r.by[node]; l.diff != none; l = r.by[node] {
		way = append(way, l)
		node, _ = g.ends(l)
	}
	slices.Reverse(way)
	return way
}
