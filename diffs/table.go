package diffs

import (
	"slices"

	"snowline/api"
)

// Close returns the greatest differences between all nodes.
func Close(n api.Net) (api.Table, api.Errno) {
	if e := Check(n); e != api.OK {
		return api.Table{}, e
	}
	if n.Nodes > api.MaxTable {
		return api.Table{}, api.ErrLimit
	}
	x, is := settle(n)
	if !is {
		return api.Table{}, api.ErrClash
	}
	g := newGraph(n, x)
	t := api.Table{Nodes: n.Nodes}
	for from := range n.Nodes {
		for to, far := range g.searchAll(from).far {
			most, has := 0, far != unreached
			if has {
				most = far + x[to] - x[from]
			}
			t.Most = append(t.Most, most)
			t.Has = append(t.Has, has)
		}
	}
	return t, api.OK
}

// Narrow returns the table of n with a further difference, from the table of n.
func Narrow(t api.Table, d api.Diff) (api.Table, api.Errno) {
	if !isTable(t) {
		return api.Table{}, api.ErrNet
	}
	if !isDiff(d, t.Nodes) {
		return api.Table{}, api.ErrArg
	}
	if back, has := pair(t, d.To, d.From); has && back+d.Most < 0 {
		return api.Table{}, api.ErrClash
	}
	narrow := api.Table{Nodes: t.Nodes, Most: slices.Clone(t.Most), Has: slices.Clone(t.Has)}
	for i := range t.Nodes {
		before, hasBefore := pair(t, i, d.From)
		if !hasBefore {
			continue
		}
		for j := range t.Nodes {
			behind, hasBehind := pair(t, d.To, j)
			sum := before + d.Most + behind
			if most, has := pair(t, i, j); hasBehind && (!has || sum < most) {
				narrow.Most[i*t.Nodes+j] = sum
				narrow.Has[i*t.Nodes+j] = true
			}
		}
	}
	return narrow, api.OK
}

// pair returns what t has of (i, j), and whether it has it.
func pair(t api.Table, i, j int) (int, bool) {
	place := i*t.Nodes + j
	return t.Most[place], t.Has[place]
}

// isTable reports whether t is valid.
func isTable(t api.Table) bool {
	if t.Nodes < 1 || t.Nodes > api.MaxTable || len(t.Most) != t.Nodes*t.Nodes || len(t.Has) != t.Nodes*t.Nodes {
		return false
	}
	size := t.Nodes * api.MaxMost
	for i := range t.Nodes {
		for j := range t.Nodes {
			most, has := pair(t, i, j)
			if most < -size || most > size || !has && most != 0 || i == j && (!has || most != 0) {
				return false
			}
		}
	}
	return isClosed(t)
}

// isClosed reports whether t bounds each pair by what it has of the pairs that lead to it.
func isClosed(t api.Table) bool {
	for i := range t.Nodes {
		for j := range t.Nodes {
			before, is := pair(t, i, j)
			if !is {
				continue
			}
			for k := range t.Nodes {
				behind, leads := pair(t, j, k)
				if most, has := pair(t, i, k); leads && (!has || most > before+behind) {
					return false
				}
			}
		}
	}
	return true
}
