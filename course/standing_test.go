package course_test

import (
	"math"
	"math/rand"
	"slices"
	"testing"

	"snowline/api"
	"snowline/course"
)

// numbered returns sheets {no, known}, whose cell is their index.
func numbered(l ...[2]int) []api.Sheet {
	var out []api.Sheet
	for i, x := range l {
		s := sheetOf(api.Stake{})
		s.No, s.Known, s.Cell = x[0], x[1], i
		out = append(out, s)
	}
	return out
}

// P1.4
func TestStanding(t *testing.T) {
	four := numbered([2]int{1, 5}, [2]int{2, 6}, [2]int{1, 9}, [2]int{1, 7})
	for i, x := range []struct {
		l         []api.Sheet
		withdrawn []int
		known     int
		want      []int
	}{
		{nil, nil, 0, nil}, {nil, []int{0, api.MaxNo}, api.MaxDay, nil},
		{four, []int{2}, 9, []int{2}}, {four, []int{2}, 8, []int{3}}, {four, nil, 8, []int{1, 3}},
		{four, nil, 6, []int{0, 1}}, {four, nil, 5, []int{0}}, {four, nil, 4, nil},
		{four, []int{1, 2}, 9, nil}, {four, []int{1}, 9, []int{1}}, {four, []int{0, 3}, 9, []int{1, 2}},
		{numbered([2]int{1, 5}, [2]int{1, 5}, [2]int{1, 4}), nil, 5, []int{1}},
		{numbered([2]int{3, 5}, [2]int{1, 5}, [2]int{2, 5}), nil, 5, []int{0, 1, 2}},
	} {
		if y, e := course.Standing(x.l, x.withdrawn, x.known); e != api.OK || !slices.Equal(y, x.want) {
			t.Error(i, y, e)
		}
	}
}

// P1.4: the errors, in their order.
func TestStandingErrors(t *testing.T) {
	good := numbered([2]int{1, 5})
	full := slices.Repeat(good, api.MaxSights)
	invalid := append(numbered([2]int{1, 5}), api.Sheet{})
	for i, x := range []struct {
		l         []api.Sheet
		withdrawn []int
		known     int
		e         api.Errno
	}{
		{full, many(api.MaxNo + 1), api.MaxDay, api.OK},
		{make([]api.Sheet, api.MaxSights+1), []int{-1}, -1, api.ErrLimit},
		{invalid, []int{-1}, -1, api.ErrSheet},
		{good, []int{1, 1}, 0, api.ErrArg}, {good, []int{2, 1}, 0, api.ErrArg}, {good, []int{-1}, 0, api.ErrArg},
		{good, []int{api.MaxNo + 1}, 0, api.ErrArg}, {good, []int{math.MinInt}, 0, api.ErrArg}, {good, []int{math.MaxInt}, 0, api.ErrArg},
		{good, nil, -1, api.ErrArg}, {good, nil, api.MaxDay + 1, api.ErrArg}, {nil, []int{-1}, 0, api.ErrArg},
	} {
		if y, e := course.Standing(x.l, x.withdrawn, x.known); e != x.e || e != api.OK && len(y) != 0 {
			t.Error(i, y, e)
		}
	}
}

// P1.4
func TestCorrected(t *testing.T) {
	tested := scaleOf(2, [4]int{8, 90, 5, 5}, [4]int{10, 90, 4, 4})
	moved := sheetOf(api.Stake{Depth: 100, Core: 100, Full: 150}, api.Stake{Depth: 100, Core: 100, Full: 101, Soil: 2})
	moved.EmptyDay = 8
	wide := moved
	wide.Mouth = 1
	foreign := wide
	foreign.Scale = 1
	// As long as the tests are not known, the core can weigh 0 to 2; with the turn -1 it would weigh -1.
	gone := sheetOf(api.Stake{Depth: 1, Full: 98})
	gone.EmptyDay = 8
	never := sheetOf(api.Stake{Full: 9})
	for i, x := range []struct {
		c             api.Scale
		l             []api.Sheet
		before, after int
		want          []int
	}{
		{tested, nil, 0, api.MaxDay, nil},
		{tested, []api.Sheet{moved, wide, sheetOf(plain())}, 89, 90, []int{1}},
		{tested, []api.Sheet{moved, wide, sheetOf(plain())}, 90, 89, []int{1}},
		{tested, []api.Sheet{wide, foreign, gone, never, wide}, 89, 90, []int{0, 2, 4}},
		{tested, []api.Sheet{wide, gone}, 90, 91, nil}, {tested, []api.Sheet{wide, gone}, 0, 89, nil},
		{api.Scale{No: 1, Rate: 2, Tests: tested.Tests}, []api.Sheet{wide, foreign}, 0, 90, []int{1}},
	} {
		if y, e := course.Corrected(x.c, x.l, x.before, x.after); e != api.OK || !slices.Equal(y, x.want) {
			t.Error(i, y, e)
		}
	}
}

// P1.4: the errors, in their order.
func TestCorrectedErrors(t *testing.T) {
	apart := scaleOf(0, [4]int{1, 1, 0, 0}, [4]int{1, 1, 1, 1})
	good := sheetOf(plain())
	for i, x := range []struct {
		c             api.Scale
		l             []api.Sheet
		before, after int
		e             api.Errno
	}{
		{api.Scale{No: -1}, make([]api.Sheet, api.MaxSights+1), -1, 0, api.ErrScale},
		{apart, make([]api.Sheet, api.MaxSights+1), -1, 0, api.ErrApart},
		{api.Scale{}, make([]api.Sheet, api.MaxSights+1), -1, 0, api.ErrLimit},
		{api.Scale{}, []api.Sheet{good, {Scale: 1}}, -1, 0, api.ErrSheet},
		{api.Scale{}, []api.Sheet{good}, -1, 0, api.ErrArg}, {api.Scale{}, []api.Sheet{good}, 0, -1, api.ErrArg},
		{api.Scale{}, nil, api.MaxDay + 1, 0, api.ErrArg}, {api.Scale{}, nil, 0, api.MaxDay + 1, api.ErrArg},
		{api.Scale{}, slices.Repeat([]api.Sheet{good}, api.MaxSights), 0, api.MaxDay, api.OK},
	} {
		if y, e := course.Corrected(x.c, x.l, x.before, x.after); e != x.e || len(y) != 0 {
			t.Error(i, y, e)
		}
	}
}

// standing returns the cells, by which the tests below tell sheets, of those that stand, in increasing order.
func standing(t *testing.T, l []api.Sheet, known int) []int {
	t.Helper()
	y, e := course.Standing(l, []int{3}, known)
	if e != api.OK || !slices.IsSorted(y) {
		t.Fatal(y, e)
	}
	seen := map[int]bool{}
	var out []int
	for _, i := range y {
		if seen[l[i].No] || l[i].No == 3 || l[i].Known > known {
			t.Fatal(l, y)
		}
		seen[l[i].No] = true
		out = append(out, l[i].Cell)
	}
	slices.Sort(out)
	return out
}

// P1.10: at most one sheet of a number stands, in whatever order the others are.
func TestStandingOrder(t *testing.T) {
	r := rand.New(rand.NewSource(3))
	for range 100 {
		var pairs [][2]int
		for no := range 5 {
			for known := range 6 {
				if r.Intn(2) == 0 {
					pairs = append(pairs, [2]int{no, known})
				}
			}
		}
		l := numbered(pairs...)
		known := r.Intn(7)
		want := standing(t, l, known)
		r.Shuffle(len(l), func(i, j int) { l[i], l[j] = l[j], l[i] })
		if y := standing(t, l, known); !slices.Equal(y, want) {
			t.Fatal(pairs, known, y, want)
		}
	}
	// Among those with the same No and Known the order decides.
	l := numbered([2]int{1, 5}, [2]int{1, 5})
	if a, b := standing(t, l, 5), standing(t, []api.Sheet{l[1], l[0]}, 5); !slices.Equal(a, []int{1}) || !slices.Equal(b, []int{0}) {
		t.Error(a, b)
	}
}
