package basin

import (
	"slices"

	"snowline/api"
)

// grid is the cells of a scene on the days that are looked at, each of which has a node in the net of the scene.
type grid struct {
	cells []api.Cell
	days  []int
	place map[int]int // the index of each cell, by its No
}

// newGrid returns the grid of a scene with a valid basin and valid days.
func newGrid(s api.Scene) grid {
	g := grid{cells: s.Basin.Cells, days: s.Days, place: map[int]int{}}
	for i, c := range g.cells {
		g.place[c.No] = i
	}
	return g
}

// nodes returns how many nodes there are; the first one is the ground.
func (g grid) nodes() int { return 1 + len(g.days)*len(g.cells) }

// node returns the node of a cell on a day, both given by their indices.
func (g grid) node(cell, day int) int { return 1 + day*len(g.cells) + cell }

// find returns the node of the cell with a No on a day, and whether there is one.
func (g grid) find(no, day int) (int, bool) {
	cell, isCell := g.place[no]
	at, isDay := slices.BinarySearch(g.days, day)
	if !isCell || !isDay {
		return 0, false
	}
	return g.node(cell, at), true
}

// findAll returns the nodes of cells on a day, and whether these are a list of cells and a day as functions take them.
func (g grid) findAll(cells []int, day int) ([]int, bool) {
	if len(cells) == 0 || !isIncreasing(cells) {
		return nil, false
	}
	var l []int
	for _, no := range cells {
		node, is := g.find(no, day)
		if !is {
			return nil, false
		}
		l = append(l, node)
	}
	return l, true
}

// area returns the area of the cell of a node.
func (g grid) area(node int) int { return g.cells[(node-1)%len(g.cells)].Area }

// volume returns the volume of the cells of nodes, if x is the water of all nodes.
func (g grid) volume(nodes, x []int) int {
	sum := 0
	for _, node := range nodes {
		sum += g.area(node) * x[node]
	}
	return sum
}

// field returns the water of all cells, day by day, if x is the water of all nodes.
func (g grid) field(x []int) [][]int {
	f := make([][]int, len(g.days))
	for day := range len(g.days) {
		for cell := range len(g.cells) {
			f[day] = append(f[day], x[g.node(cell, day)])
		}
	}
	return f
}

// water returns the water of all nodes, if f is that of all cells, day by day; and whether f has as many days and cells as the grid.
func (g grid) water(f [][]int) ([]int, bool) {
	if len(f) != len(g.days) {
		return nil, false
	}
	x := []int{0}
	for day := range len(g.days) {
		if len(f[day]) != len(g.cells) {
			return nil, false
		}
		x = append(x, f[day]...)
	}
	return x, true
}

func (g grid) hasSight(x api.Sight) bool {
	_, is := g.find(x.Cell, x.Day)
	return is && 0 <= x.No && x.No <= maxSheet && 0 <= x.Lo && x.Lo <= x.Hi && x.Hi <= api.MaxWater
}

func (g grid) hasChange(x api.Change) bool {
	_, isFrom := g.find(x.Cell, x.From)
	_, isTo := g.find(x.Cell, x.To)
	return isFrom && isTo && x.From < x.To && -api.MaxWater <= x.Lo && x.Lo <= x.Hi && x.Hi <= api.MaxWater
}
