package office

import (
	"cmp"
	"slices"

	"snowline/api"
)

// place returns where the element with a number is, or would be, in a list in the order of the numbers, and whether it is there.
func place[E any](l []E, no int, number func(E) int) (int, bool) {
	return slices.BinarySearchFunc(l, no, func(x E, no int) int { return cmp.Compare(number(x), no) })
}

// put puts x at its place in a list in the order of the numbers, unless there is one with its number; it reports whether it has.
func put[E any](l *[]E, x E, number func(E) int) bool {
	at, is := place(*l, number(x), number)
	if !is {
		*l = slices.Insert(*l, at, x)
	}
	return !is
}

// numbers returns the numbers of the elements of l.
func numbers[E any](l []E, number func(E) int) []int {
	var out []int
	for _, x := range l {
		out = append(out, number(x))
	}
	return out
}

func itself(x int) int { return x }

func scaleNo(s api.Scale) int { return s.No }

func sheetNo(s api.Sheet) int { return s.No }

func cellNo(c api.Cell) int { return c.No }

func weatherDay(w api.Weather) int { return w.Day }

func springNo(s api.Spring) int { return s.No }

func pillowNo(p api.Pillow) int { return p.No }

func pondValley(p api.Pond) int { return p.Valley }

func siteNo(s api.Site) int { return s.No }

func trackNo(t api.Track) int { return t.No }
