package crew

import (
	"slices"

	"snowline/api"
	"snowline/basin"
	"snowline/diffs"
)

// valley is what is known of the volume of cells on a day.
type valley struct {
	scene       api.Scene
	net         api.Net
	first       int   // the node of the first cell of the scene on the day
	cells       []int // the indices of the cells whose volume it is
	least, most []int // the water of all nodes
}

// outcome is what a measurement tells, how far apart the least and the greatest volume are then, and whether they are nearer than before.
type outcome struct {
	told    api.Span
	width   int
	narrows bool
}

// newValley returns what is known of cells on a day of s; areRight tells whether the arguments beside these are as they have to be.
func newValley(s api.Scene, cells []int, day int, areRight bool) (valley, api.Errno) {
	net, _, e := basin.Net(s)
	if e != api.OK {
		return valley{}, e
	}
	at := slices.Index(s.Days, day)
	if at < 0 || !areCells(s, cells) || !areRight {
		return valley{}, api.ErrArg
	}
	v := valley{scene: s, net: net, first: 1 + at*len(s.Basin.Cells)}
	for _, no := range cells {
		v.cells = append(v.cells, cellAt(s, no))
	}
	v.least, v.most, e = bounds(net)
	return v, e
}

// bounds returns the least and the greatest numbers at the nodes of n.
func bounds(n api.Net) (least, most []int, e api.Errno) {
	if least, e = diffs.Bottom(n); e != api.OK {
		return nil, nil, e
	}
	most, e = diffs.Top(n)
	return least, most, e
}

// Worst returns how far apart the least and the greatest volume of cells can still be after the water of a cell has been measured as exactly as a width says.
func Worst(s api.Scene, cells []int, day, cell, width int) (int, api.Errno) {
	o, e := worst(s, cells, day, cell, width)
	return o.width, e
}

// Told returns what a measurement has to tell for that, and whether it narrows anything.
func Told(s api.Scene, cells []int, day, cell, width int) (api.Span, bool, api.Errno) {
	o, e := worst(s, cells, day, cell, width)
	return o.told, o.narrows, e
}

func worst(s api.Scene, cells []int, day, cell, width int) (outcome, api.Errno) {
	v, e := newValley(s, cells, day, cellAt(s, cell) >= 0 && isIn(width, 0, api.MaxWater))
	if e != api.OK {
		return outcome{}, e
	}
	return v.worst(cell, width)
}

// worst returns the outcome of a measurement of a cell that leaves the volume as wide as possible.
func (v valley) worst(cell, width int) (outcome, api.Errno) {
	node := v.first + cellAt(v.scene, cell)
	all := [2]int{v.least[node], v.most[node]}
	if all[1]-all[0]+width > api.MaxTold || len(v.scene.Sights) >= api.MaxSights {
		return outcome{}, api.ErrLimit
	}
	// Where the node is the ground, the bounds are those of how much more water than at this node there is.
	least, most, e := bounds(exchanged(v.net, node))
	if e != api.OK {
		return outcome{}, e
	}
	least[0], least[node] = least[node], least[0]
	most[0], most[node] = most[node], most[0]
	now := v.width(all, least, most)
	o, before := outcome{width: -1}, [2]int{-1, -1}
	for from := all[0] - width; from <= all[1]; from++ {
		to := from + width
		left := [2]int{max(from, all[0]), min(to, all[1])}
		if left == before { // What is told leaves no less than what was told before.
			continue
		}
		before = left
		if wide := v.width(left, least, most); wide > o.width {
			o = outcome{api.Span{Lo: max(from, 0), Hi: min(to, api.MaxWater)}, wide, wide < now}
		}
	}
	return o, api.OK
}

// exchanged returns n with the ground and another node in each other's place.
func exchanged(n api.Net, node int) api.Net {
	place := func(x int) int {
		switch x {
		case 0:
			return node
		case node:
			return 0
		}
		return x
	}
	other := api.Net{Nodes: n.Nodes}
	for _, d := range n.Diffs {
		other.Diffs = append(other.Diffs, api.Diff{From: place(d.From), To: place(d.To), Most: d.Most})
	}
	return other
}

// width returns how far apart the least and the greatest volume are if one node has the water from left[0] to left[1], and each node at least and at most so much more water than that node.
func (v valley) width(left [2]int, least, most []int) int {
	sum := 0
	for _, cell := range v.cells {
		node := v.first + cell
		lo, hi := max(v.least[node], left[0]+least[node]), min(v.most[node], left[1]+most[node])
		sum += (hi - lo) * v.scene.Basin.Cells[cell].Area
	}
	return sum
}
