package diffs_test

import (
	"math"
	"math/rand"
	"slices"
	"testing"

	"snowline/api"
	"snowline/diffs"
)

// large is the size of the numbers that are admitted.
const large = 1 << 40

// netOf returns a net with these differences, each written as From, To, Most.
func netOf(nodes int, l ...int) api.Net {
	n := api.Net{Nodes: nodes}
	for i := 0; i < len(l); i += 3 {
		n.Diffs = append(n.Diffs, diff(l[i], l[i+1], l[i+2]))
	}
	return n
}

func diff(from, to, most int) api.Diff { return api.Diff{From: from, To: to, Most: most} }

// sample is the net of the chapter's first example.
func sample() api.Net { return netOf(3, 0, 1, 5, 1, 2, -2, 2, 0, 0) }

// clashing is the net of the second one.
func clashing() api.Net { return with(sample(), diff(0, 1, 1)) }

// with returns n with a further difference, unchecked.
func with(n api.Net, d api.Diff) api.Net {
	return api.Net{Nodes: n.Nodes, Diffs: append(slices.Clone(n.Diffs), d)}
}

// without returns n without the difference with the index k.
func without(n api.Net, k int) api.Net {
	return api.Net{Nodes: n.Nodes, Diffs: slices.Delete(slices.Clone(n.Diffs), k, k+1)}
}

// invalid returns nets that are not valid.
func invalid() []api.Net {
	l := []api.Net{{}, {Nodes: -1}, {Nodes: 257}, {Nodes: math.MaxInt}, {Nodes: math.MinInt}, {Nodes: 2, Diffs: make([]api.Diff, 4097)}}
	for _, x := range []int{-1, 2, math.MinInt, math.MaxInt} {
		l = append(l, netOf(2, x, 0, 0), netOf(2, 0, x, 0), netOf(2, 0, 1, 0, x, 1, 0))
	}
	for _, x := range []int{1<<30 + 1, -1<<30 - 1, math.MinInt, math.MaxInt} {
		l = append(l, netOf(2, 0, 1, x), netOf(2, 0, 1, 3, 1, 0, x))
	}
	return append(l, netOf(1, 0, 1, 0), api.Net{Nodes: 0, Diffs: make([]api.Diff, 1)})
}

// fitting reports, by the definition, whether x is an assignment of n.
func fitting(n api.Net, x []int) bool {
	is := x[0] == 0
	for _, d := range n.Diffs {
		is = is && x[d.To]-x[d.From] <= d.Most
	}
	return is
}

// tried returns all assignments of n with numbers of at most that size.
func tried(n api.Net, size int) [][]int {
	var all [][]int
	x := make([]int, n.Nodes)
	var try func(node int)
	try = func(node int) {
		if node == n.Nodes {
			if fitting(n, x) {
				all = append(all, slices.Clone(x))
			}
			return
		}
		for x[node] = -size; x[node] <= size; x[node]++ {
			try(node + 1)
		}
	}
	try(1)
	return all
}

// random returns a net with at most that many nodes and differences, each Most at most that large in size and seldom below 0.
func random(r *rand.Rand, nodes, count, most int) api.Net {
	n := api.Net{Nodes: 1 + r.Intn(nodes)}
	low := r.Intn(most + 1)
	for range r.Intn(count + 1) {
		n.Diffs = append(n.Diffs, diff(r.Intn(n.Nodes), r.Intn(n.Nodes), r.Intn(most+low+1)-low))
	}
	return n
}

// around returns a net of that many nodes that a random assignment fulfils, often just so.
func around(r *rand.Rand, nodes, count int) api.Net {
	n := api.Net{Nodes: nodes}
	x := make([]int, nodes)
	for i := 1; i < nodes; i++ {
		x[i] = r.Intn(1<<29) - 1<<28
	}
	for range count {
		from, to := r.Intn(nodes), r.Intn(nodes)
		n.Diffs = append(n.Diffs, diff(from, to, x[to]-x[from]+r.Intn(1<<(1+r.Intn(28)))))
	}
	return n
}

// boxed returns n with the differences that bound each number from both sides.
func boxed(n api.Net, most int) api.Net {
	for i := 1; i < n.Nodes; i++ {
		n = with(with(n, diff(0, i, most)), diff(i, 0, most))
	}
	return n
}

// lengths returns, for each pair of nodes, the least length of a walk of n, found from walks of one difference by going over each node; is is false if a walk back to its node is shorter than 0.
func lengths(n api.Net) (t api.Table, is bool) {
	size := n.Nodes
	t = api.Table{Nodes: size, Most: make([]int, size*size), Has: make([]bool, size*size)}
	set := func(from, to, length int) {
		place := from*size + to
		if !t.Has[place] || length < t.Most[place] {
			t.Has[place], t.Most[place] = true, length
		}
	}
	for i := range size {
		set(i, i, 0)
	}
	for _, d := range n.Diffs {
		set(d.From, d.To, d.Most)
	}
	for over := range size {
		for i := range size {
			for j := range size {
				a, b := i*size+over, over*size+j
				if t.Has[a] && t.Has[b] {
					set(i, j, t.Most[a]+t.Most[b])
				}
			}
		}
		for i := range size {
			if t.Most[i*size+i] < 0 {
				return api.Table{}, false
			}
		}
	}
	return t, true
}

// lists returns all lists of at most that many indices below count.
func lists(count, longest int) [][]int {
	all := [][]int{nil}
	level := all
	for range longest {
		var next [][]int
		for _, l := range level {
			for i := range count {
				next = append(next, append(slices.Clone(l), i))
			}
		}
		all = append(all, next...)
		level = next
	}
	return all
}

// length returns the length of a list of indices.
func length(n api.Net, l []int) int {
	sum := 0
	for _, i := range l {
		sum += n.Diffs[i].Most
	}
	return sum
}

// leads reports, by the definition, whether l is a walk of n.
func leads(n api.Net, from, to int, l []int) bool {
	if len(l) == 0 {
		return from == to
	}
	return n.Diffs[l[0]].From == from && leads(n, n.Diffs[l[0]].To, to, l[1:])
}

// starts returns the From of each difference of l.
func starts(n api.Net, l []int) map[int]bool {
	m := map[int]bool{}
	for _, i := range l {
		m[n.Diffs[i].From] = true
	}
	return m
}

// sum returns the sum of an assignment.
func sum(weights, x []int) int {
	s := 0
	for i := 1; i < len(x); i++ {
		s += weights[i] * x[i]
	}
	return s
}

// someWeights returns random weights of a net with that many nodes.
func someWeights(r *rand.Rand, nodes, most int) []int {
	l := make([]int, nodes)
	for i := range l {
		if r.Intn(4) > 0 {
			l[i] = r.Intn(2*most+1) - most
		}
	}
	return l
}

// holds fails unless x is an assignment of n, by Holds and by the definition.
func holds(t *testing.T, n api.Net, x []int) {
	t.Helper()
	is, e := diffs.Holds(n, x)
	if !is || e != api.OK || len(x) != n.Nodes || !fitting(n, x) {
		t.Fatalf("%v: %v is no assignment: Holds says %v, %d", n, x, is, e)
	}
}
