package basin_test

import (
	"math"
	"math/rand"
	"slices"
	"testing"

	"snowline/api"
	"snowline/basin"
)

// sample is the scene of the chapter's first example, on the day 5.
func sample() api.Scene {
	return api.Scene{
		Basin: api.Basin{
			Cells: []api.Cell{{No: 1, Height: 1000, Aspect: 0, Area: 10}, {No: 2, Height: 1200, Aspect: 1, Area: 20}},
			Pairs: [][2]int{{0, 1}}, Gain: 50, Slack: 30, Deep: 900,
		},
		Days:   []int{5},
		Sights: []api.Sight{{No: 7, Cell: 1, Day: 5, Lo: 200, Hi: 210}},
	}
}

// clashing is that of the third one, in which no field is allowed.
func clashing() api.Scene {
	return with(sample(), api.Sight{No: 9, Cell: 2, Day: 5, Lo: 341, Hi: 400})
}

// later is that of the fourth one, with the days 5 and 6.
func later() api.Scene {
	s := sample()
	s.Days = []int{5, 6}
	s.Changes = []api.Change{{Cell: 1, From: 5, To: 6, Lo: -50, Hi: -20}, {Cell: 2, From: 5, To: 6, Lo: -100, Hi: 0}}
	return s
}

// noWay is a scene in which changes alone contradict each other.
func noWay() api.Scene {
	s := later()
	s.Changes = append(s.Changes, api.Change{Cell: 1, From: 5, To: 6, Lo: -10, Hi: 0})
	return s
}

// with returns s with further sights, unchecked.
func with(s api.Scene, l ...api.Sight) api.Scene {
	s.Sights = slices.Concat(s.Sights, l)
	return s
}

// alone returns s with the sights of l alone.
func alone(s api.Scene, l []int) api.Scene {
	all := s.Sights
	s.Sights = nil
	for _, x := range all {
		if slices.Contains(l, x.No) {
			s.Sights = append(s.Sights, x)
		}
	}
	return s
}

// bound is a difference as the chapter tells it: the water of a cell on a day is at most Most greater than that of another one; cells and days are indices, and the cell -1 is the ground.
type bound struct {
	from, fromDay, to, toDay, most int
	reason                         api.Reason
}

// bounds returns what bounds the fields of s, in the order of its net, told from the chapter.
func bounds(s api.Scene) []bound {
	var l []bound
	b := s.Basin
	for d, day := range s.Days {
		for c, cell := range b.Cells {
			l = append(l, bound{-1, 0, c, d, b.Deep, api.Reason{Kind: api.DeepR, Index: cell.No, Day: day}})
			l = append(l, bound{c, d, -1, 0, 0, api.Reason{Kind: api.BareR, Index: cell.No, Day: day}})
		}
		for i, p := range b.Pairs {
			lower, higher := b.Cells[p[0]], b.Cells[p[1]]
			switch lower.Aspect - higher.Aspect {
			case -7, -1, 0, 1, 7:
			default:
				continue
			}
			less := 0
			if lower.Height == higher.Height {
				less = b.Slack
			}
			l = append(l, bound{p[0], d, p[1], d, b.Slack + b.Gain*(higher.Height-lower.Height)/100, api.Reason{Kind: api.MoreR, Index: i, Day: day}})
			l = append(l, bound{p[1], d, p[0], d, less, api.Reason{Kind: api.LessR, Index: i, Day: day}})
		}
	}
	for i, x := range s.Sights {
		c, d := cellAt(s, x.Cell), slices.Index(s.Days, x.Day)
		l = append(l, bound{-1, 0, c, d, x.Hi, api.Reason{Kind: api.SightR, Index: i, Upper: true}})
		l = append(l, bound{c, d, -1, 0, -x.Lo, api.Reason{Kind: api.SightR, Index: i}})
	}
	for i, x := range s.Changes {
		c, from, to := cellAt(s, x.Cell), slices.Index(s.Days, x.From), slices.Index(s.Days, x.To)
		l = append(l, bound{c, from, c, to, x.Hi, api.Reason{Kind: api.ChangeR, Index: i, Upper: true}})
		l = append(l, bound{c, to, c, from, -x.Lo, api.Reason{Kind: api.ChangeR, Index: i}})
	}
	return l
}

// cellAt returns the index of the cell of s with a No.
func cellAt(s api.Scene, no int) int {
	return slices.IndexFunc(s.Basin.Cells, func(c api.Cell) bool { return c.No == no })
}

// allows reports, by the chapter's words, whether s allows a field.
func allows(s api.Scene, f [][]int) bool {
	b := s.Basin
	for _, water := range f {
		for _, x := range water {
			if x < 0 || x > b.Deep {
				return false
			}
		}
		for _, p := range b.Pairs {
			lower, higher := b.Cells[p[0]], b.Cells[p[1]]
			apart := (lower.Aspect - higher.Aspect + 8) % 8
			if apart != 0 && apart != 1 && apart != 7 {
				continue
			}
			x, y := water[p[0]], water[p[1]]
			if y > x+b.Slack+b.Gain*(higher.Height-lower.Height)/100 {
				return false
			}
			if higher.Height > lower.Height && y < x || higher.Height == lower.Height && x > y+b.Slack {
				return false
			}
		}
	}
	for _, x := range s.Sights {
		water := f[slices.Index(s.Days, x.Day)][cellAt(s, x.Cell)]
		if water < x.Lo || water > x.Hi {
			return false
		}
	}
	for _, x := range s.Changes {
		c := cellAt(s, x.Cell)
		more := f[slices.Index(s.Days, x.To)][c] - f[slices.Index(s.Days, x.From)][c]
		if more < x.Lo || more > x.Hi {
			return false
		}
	}
	return true
}

// tried returns all fields that s allows.
func tried(s api.Scene) [][][]int {
	var all [][][]int
	width := len(s.Basin.Cells)
	x := make([]int, width*len(s.Days))
	var f [][]int
	for i := range s.Days {
		f = append(f, x[i*width:(i+1)*width])
	}
	var try func(i int)
	try = func(i int) {
		if i == len(x) {
			if allows(s, f) {
				all = append(all, copied(f))
			}
			return
		}
		for x[i] = 0; x[i] <= s.Basin.Deep; x[i]++ {
			try(i + 1)
		}
	}
	try(0)
	return all
}

func copied(f [][]int) [][]int {
	var l [][]int
	for _, x := range f {
		l = append(l, slices.Clone(x))
	}
	return l
}

// volumeOf returns the volume of cells, given by their No, on a day, in a field.
func volumeOf(s api.Scene, f [][]int, cells []int, day int) int {
	sum := 0
	for i, c := range s.Basin.Cells {
		if slices.Contains(cells, c.No) {
			sum += c.Area * f[slices.Index(s.Days, day)][i]
		}
	}
	return sum
}

// spanOf returns the least and the greatest of what a function returns for all fields.
func spanOf(all [][][]int, of func(f [][]int) int) api.Span {
	s := api.Span{Lo: math.MaxInt, Hi: math.MinInt}
	for _, f := range all {
		s.Lo, s.Hi = min(s.Lo, of(f)), max(s.Hi, of(f))
	}
	return s
}

// small returns a scene all of whose fields can be tried: a few cells, days and millimetres.
func small(r *rand.Rand) api.Scene {
	var s api.Scene
	shape := [][2]int{{1, 1}, {2, 1}, {3, 1}, {4, 1}, {1, 2}, {2, 2}, {3, 2}, {1, 3}, {2, 3}, {1, 4}}[r.Intn(10)]
	s.Basin = api.Basin{Gain: r.Intn(3), Slack: r.Intn(3), Deep: 1 + r.Intn(5)}
	if shape[0]*shape[1] > 4 {
		s.Basin.Deep = 2
	}
	no := r.Intn(3)
	aspect := r.Intn(8)
	for range shape[0] {
		s.Basin.Cells = append(s.Basin.Cells, api.Cell{No: no, Height: 50 * r.Intn(5), Aspect: (aspect + r.Intn(3)) % 8, Area: 1 + r.Intn(5)})
		no += 1 + r.Intn(3)
	}
	s.Basin.Pairs = somePairs(r, s.Basin.Cells)
	day := r.Intn(3)
	for range shape[1] {
		s.Days = append(s.Days, day)
		day += 1 + r.Intn(3)
	}
	for range r.Intn(5) {
		s.Sights = append(s.Sights, someSight(r, s, 5, 1+r.Intn(4)))
	}
	if shape[1] > 1 {
		for range r.Intn(4) {
			s.Changes = append(s.Changes, someChange(r, s, 3))
		}
	}
	return s
}

// somePairs returns two thirds of all pairs of cells.
func somePairs(r *rand.Rand, cells []api.Cell) [][2]int {
	var l [][2]int
	for _, i := range r.Perm(len(cells)) {
		for j := range i {
			p := [2]int{i, j}
			if cells[i].Height > cells[j].Height || cells[i].Height == cells[j].Height && r.Intn(2) == 0 {
				p = [2]int{j, i}
			}
			if r.Intn(3) > 0 {
				l = append(l, p)
			}
		}
	}
	return l
}

// someSight returns a sight of s with a No below nos, that bounds some water up to a width.
func someSight(r *rand.Rand, s api.Scene, nos, width int) api.Sight {
	lo := r.Intn(s.Basin.Deep + 1)
	return api.Sight{
		No: r.Intn(nos), Cell: s.Basin.Cells[r.Intn(len(s.Basin.Cells))].No, Day: s.Days[r.Intn(len(s.Days))],
		Lo: lo, Hi: min(lo+r.Intn(width+1), api.MaxWater),
	}
}

// someChange returns a change of s, that has at least two days, of at most a size.
func someChange(r *rand.Rand, s api.Scene, size int) api.Change {
	from := r.Intn(len(s.Days) - 1)
	to := from + 1 + r.Intn(len(s.Days)-from-1)
	lo := r.Intn(2*size+1) - size
	return api.Change{
		Cell: s.Basin.Cells[r.Intn(len(s.Basin.Cells))].No, From: s.Days[from], To: s.Days[to],
		Lo: lo, Hi: min(lo+r.Intn(size+1), api.MaxWater),
	}
}

// large returns a scene of the greatest size. Its sights and changes hold for a field that it chooses, which it returns too.
func large(r *rand.Rand) (api.Scene, [][]int) {
	s := api.Scene{Basin: api.Basin{Gain: 40, Slack: 300, Deep: 3000}}
	for i := range api.MaxCells {
		s.Basin.Cells = append(s.Basin.Cells, api.Cell{No: 3 * i, Height: 1000 + 100*i, Aspect: i % 3, Area: 1 + r.Intn(api.MaxArea)})
	}
	for i := range api.MaxCells {
		for j := i + 1; j < min(i+4, api.MaxCells) && len(s.Basin.Pairs) < api.MaxPairs; j++ {
			s.Basin.Pairs = append(s.Basin.Pairs, [2]int{i, j})
		}
	}
	var f [][]int
	for d := range api.MaxDates {
		s.Days = append(s.Days, 7*d)
		water := []int{r.Intn(500)}
		for range api.MaxCells - 1 {
			water = append(water, water[len(water)-1]+r.Intn(100))
		}
		f = append(f, water)
	}
	for i := range api.MaxSights {
		c, d := r.Intn(api.MaxCells), r.Intn(api.MaxDates)
		s.Sights = append(s.Sights, api.Sight{No: 31 * i, Cell: 3 * c, Day: 7 * d, Lo: max(0, f[d][c]-r.Intn(300)), Hi: f[d][c] + r.Intn(300)})
	}
	for range api.MaxChanges {
		c, from := r.Intn(api.MaxCells), r.Intn(api.MaxDates-1)
		to := from + 1 + r.Intn(api.MaxDates-1-from)
		more := f[to][c] - f[from][c]
		s.Changes = append(s.Changes, api.Change{Cell: 3 * c, From: 7 * from, To: 7 * to, Lo: more - r.Intn(200), Hi: more + r.Intn(200)})
	}
	return s, f
}

// numbers returns the No of the sights of s, in increasing order, each once.
func numbers(s api.Scene) []int {
	var l []int
	for _, x := range s.Sights {
		l = append(l, x.No)
	}
	slices.Sort(l)
	return slices.Compact(l)
}

// subsets returns all lists that can be made of l by leaving out elements.
func subsets(l []int) [][]int {
	all := [][]int{nil}
	for _, x := range l {
		for _, shorter := range slices.Clone(all) {
			all = append(all, append(slices.Clone(shorter), x))
		}
	}
	return all
}

// someCells returns some numbers of cells of s, at least one.
func someCells(r *rand.Rand, s api.Scene) []int {
	for {
		var l []int
		for _, c := range s.Basin.Cells {
			if r.Intn(3) > 0 {
				l = append(l, c.No)
			}
		}
		if len(l) > 0 {
			return l
		}
	}
}

// isClash reports whether e is ErrClash if no field is allowed, and fails if it is another error than there should be.
func isClash(t *testing.T, s api.Scene, all [][][]int, e api.Errno) bool {
	t.Helper()
	want := api.OK
	if len(all) == 0 {
		want = api.ErrClash
	}
	if e != want {
		t.Fatalf("%v: the error is %d, not %d", s, e, want)
	}
	return e == api.ErrClash
}

// checked fails unless s is valid.
func checked(t *testing.T, s api.Scene) {
	t.Helper()
	if e := basin.Check(s); e != api.OK {
		t.Fatalf("%v is not valid: %d", s, e)
	}
}
