package course_test

import (
	"math"
	"math/rand"
	"slices"
	"testing"

	"snowline/api"
	"snowline/course"
)

// P1.1
func TestCheckTest(t *testing.T) {
	good := []api.Test{
		{}, {Lo: -3, Hi: 4}, {Lo: 4, Hi: 4},
		{Day: api.MaxDay, Known: api.MaxDay}, {Day: 5, Known: 4},
		{Lo: -api.MaxGram, Hi: -api.MaxGram}, {Lo: api.MaxGram, Hi: api.MaxGram},
	}
	for i, x := range good {
		if e := course.CheckTest(x); e != api.OK {
			t.Error(i, e)
		}
	}
	bad := []api.Test{
		{Lo: 5, Hi: 4}, {Day: -1}, {Day: api.MaxDay + 1}, {Known: -1}, {Known: api.MaxDay + 1},
		{Lo: -api.MaxGram - 1}, {Hi: api.MaxGram + 1}, {Lo: api.MaxGram + 1, Hi: api.MaxGram + 1},
		{Lo: -api.MaxGram - 1, Hi: -api.MaxGram - 1}, {Lo: math.MinInt, Hi: math.MaxInt},
	}
	for i, x := range bad {
		if e := course.CheckTest(x); e != api.ErrTest {
			t.Error(i, e)
		}
	}
}

// P1.1
func TestCheckScale(t *testing.T) {
	for i, x := range []struct {
		s api.Scale
		e api.Errno
	}{
		{api.Scale{}, api.OK},
		{api.Scale{Tests: []api.Test{}}, api.OK},
		{api.Scale{No: api.MaxNo, Rate: api.MaxRate}, api.OK},
		{api.Scale{No: api.MaxNo + 1}, api.ErrScale},
		{api.Scale{No: -1}, api.ErrScale},
		{api.Scale{Rate: api.MaxRate + 1}, api.ErrScale},
		{api.Scale{Rate: -1}, api.ErrScale},
		{api.Scale{Rate: math.MinInt}, api.ErrScale},
		{api.Scale{Tests: make([]api.Test, api.MaxTests)}, api.OK},
		{api.Scale{Tests: make([]api.Test, api.MaxTests+1)}, api.ErrScale},
		{scaleOf(0, [4]int{1, 1, 1, 0}), api.ErrScale},
		{scaleOf(0, [4]int{1, 2, 0, 0}, [4]int{1, 2, 0, 0}), api.OK},
		{scaleOf(0, [4]int{1, 2, 0, 0}, [4]int{1, 1, 0, 0}), api.ErrScale},
		{scaleOf(2, [4]int{10, 1, 0, 1}, [4]int{12, 1, 5, 7}), api.OK},
		{scaleOf(2, [4]int{10, 1, 0, 1}, [4]int{12, 1, 6, 7}), api.ErrApart},
		{scaleOf(2, [4]int{12, 1, 6, 7}, [4]int{10, 1, 0, 1}), api.ErrApart},
		{scaleOf(2, [4]int{10, 1, 6, 7}, [4]int{12, 1, 0, 1}), api.ErrApart},
		{scaleOf(2, [4]int{7, 1, 0, 1}, [4]int{7, 1, 2, 3}), api.ErrApart},
		{scaleOf(2, [4]int{7, 1, 0, 2}, [4]int{7, 1, 2, 3}), api.OK},
		// Contradictions count from whatever day they are known; an invalid test counts more.
		{scaleOf(0, [4]int{1, 5, 0, 0}, [4]int{2, api.MaxDay, 1, 1}), api.ErrApart},
		{scaleOf(0, [4]int{1, 5, 0, 0}, [4]int{2, 5, 1, 1}, [4]int{-1, 5, 1, 1}), api.ErrScale},
		{scaleOf(1000, [4]int{0, 0, -api.MaxGram, -api.MaxGram}, [4]int{2097, 0, api.MaxGram, api.MaxGram}), api.ErrApart},
		{scaleOf(1000, [4]int{0, 0, -api.MaxGram, -api.MaxGram}, [4]int{2098, 0, api.MaxGram, api.MaxGram}), api.OK},
	} {
		if e := course.CheckScale(x.s); e != x.e {
			t.Error(i, e)
		}
	}
}

// P1.1
func TestApart(t *testing.T) {
	for i, x := range []struct {
		s    api.Scale
		pair [2]int
		is   bool
		e    api.Errno
	}{
		{api.Scale{}, [2]int{}, false, api.OK},
		{scaleOf(2, [4]int{10, 0, 0, 1}, [4]int{12, 0, 6, 7}), [2]int{0, 1}, true, api.OK},
		{scaleOf(2, [4]int{10, 0, 0, 1}, [4]int{12, 0, 5, 7}), [2]int{}, false, api.OK},
		{scaleOf(2, [4]int{1, 0, 0, 0}, [4]int{10, 0, 0, 1}, [4]int{12, 0, 6, 7}), [2]int{1, 2}, true, api.OK},
		// The pairs 0 3, 1 2 and 1 3: the least one is not that with the nearest tests.
		{scaleOf(0, [4]int{1, 0, 0, 9}, [4]int{1, 0, 0, 1}, [4]int{1, 0, 5, 6}, [4]int{1, 0, 10, 11}), [2]int{0, 3}, true, api.OK},
		{api.Scale{Rate: -1}, [2]int{}, false, api.ErrScale},
		{scaleOf(0, [4]int{1, 0, 0, 0}, [4]int{1, 0, 5, 5}, [4]int{1, 0, 5, 4}), [2]int{}, false, api.ErrScale},
	} {
		if pair, is, e := course.Apart(x.s); pair != x.pair || is != x.is || e != x.e {
			t.Error(i, pair, is, e)
		}
	}
}

// P1.1
func TestAddTest(t *testing.T) {
	one := scaleOf(2, [4]int{10, 10, 0, 1})
	apart := scaleOf(0, [4]int{1, 1, 0, 0}, [4]int{1, 1, 1, 1})
	full := api.Scale{Tests: make([]api.Test, api.MaxTests)}
	almost := api.Scale{Tests: make([]api.Test, api.MaxTests-1)}
	for i, x := range []struct {
		s api.Scale
		t api.Test
		e api.Errno
	}{
		{api.Scale{}, api.Test{}, api.OK},
		{one, api.Test{Day: 12, Known: 10, Lo: 5, Hi: 7}, api.OK},
		{one, api.Test{Day: 12, Known: 10, Lo: 6, Hi: 7}, api.ErrApart},
		{one, api.Test{Day: 8, Known: 10, Lo: -9, Hi: -4}, api.OK},
		{one, api.Test{Day: 8, Known: 10, Lo: -9, Hi: -5}, api.ErrApart},
		{one, api.Test{Day: 12, Known: 9, Lo: 6, Hi: 7}, api.ErrArg},
		{one, api.Test{Day: 12, Known: 9, Lo: 7, Hi: 6}, api.ErrTest},
		{full, api.Test{}, api.ErrLimit},
		{full, api.Test{Lo: 1}, api.ErrTest},
		{full, api.Test{Lo: 1, Hi: 1}, api.ErrLimit},
		{almost, api.Test{}, api.OK},
		{apart, api.Test{Lo: 1}, api.ErrApart},
		{api.Scale{No: -1}, api.Test{Lo: 1}, api.ErrScale},
	} {
		y, e := course.AddTest(x.s, x.t)
		if e != x.e {
			t.Error(i, e)
		}
		n := len(y.Tests)
		if e != api.OK && (y.No != 0 || y.Rate != 0 || n != 0) {
			t.Error(i, y)
		}
		if e == api.OK && (y.No != x.s.No || y.Rate != x.s.Rate || n != len(x.s.Tests)+1 || y.Tests[n-1] != x.t || !slices.Equal(y.Tests[:n-1], x.s.Tests)) {
			t.Error(i, y)
		}
	}
}

// P1.1: a scale that was returned shares no memory with its argument.
func TestAddTestKeepsMemoryApart(t *testing.T) {
	s := api.Scale{No: 7, Rate: 3, Tests: make([]api.Test, 1, 8)}
	a, ea := course.AddTest(s, api.Test{Day: 5})
	b, eb := course.AddTest(s, api.Test{Day: 6})
	if ea != api.OK || eb != api.OK || a.Tests[1].Day != 5 || b.Tests[1].Day != 6 {
		t.Fatal(a, ea, b, eb)
	}
	a.Tests[0].Day = 9
	if s.Tests[0].Day != 0 || b.Tests[0].Day != 0 || s.Tests[:2][1].Day != 0 {
		t.Error(s, b)
	}
}

// P1.6: a scale has a history exactly if no two of its tests contradict each other.
func TestPairsOfTestsSuffice(t *testing.T) {
	r := rand.New(rand.NewSource(2))
	seen := map[bool]int{}
	for i := range 300 {
		middle := middles()[i%4]
		s := small(r, middle)
		all := histories(s, api.MaxDay, middle)
		e := course.CheckScale(s)
		if (e == api.OK) != (len(all) > 0) || e != api.OK && e != api.ErrApart {
			t.Fatal(s, e, len(all))
		}
		seen[e == api.OK]++
	}
	if seen[true] < 50 || seen[false] < 50 {
		t.Error(seen)
	}
}
