package course_test

import (
	"math"
	"math/rand"
	"slices"
	"testing"

	"snowline/api"
	"snowline/course"
)

// P1.2
func TestDrift(t *testing.T) {
	one := scaleOf(2, [4]int{10, 10, 0, 1})
	two := scaleOf(2, [4]int{10, 10, 0, 1}, [4]int{13, 20, 3, 3})
	last := scaleOf(1, [4]int{api.MaxDay, 0, api.MaxGram - 1, api.MaxGram})
	for i, x := range []struct {
		s          api.Scale
		day, known int
		want       api.Span
	}{
		{api.Scale{}, 0, 0, span(-api.MaxGram, api.MaxGram)},
		{api.Scale{Rate: 5}, api.MaxDay, api.MaxDay, span(-api.MaxGram, api.MaxGram)},
		{one, 13, 10, span(-6, 7)}, {one, 7, 10, span(-6, 7)}, {one, 10, 10, span(0, 1)},
		{one, 13, 9, span(-api.MaxGram, api.MaxGram)},
		{two, 13, 19, span(-6, 7)}, {two, 13, 20, span(3, 3)}, {two, 12, 20, span(1, 5)}, {two, 11, 20, span(-1, 3)},
		{one, api.MaxDay, 10, span(-api.MaxGram, api.MaxGram)},
		{last, api.MaxDay - 3, 0, span(api.MaxGram-4, api.MaxGram)},
		{last, 0, 0, span(-1, api.MaxGram)},
		{scaleOf(0, [4]int{0, 0, -7, -5}), api.MaxDay, 0, span(-7, -5)},
	} {
		if y, e := course.Drift(x.s, x.day, x.known); e != api.OK || y != x.want {
			t.Error(i, y, e)
		}
	}
}

// P1.2
func TestTurn(t *testing.T) {
	one := scaleOf(2, [4]int{10, 10, 0, 1})
	two := scaleOf(2, [4]int{10, 10, 0, 1}, [4]int{13, 20, 3, 3})
	for i, x := range []struct {
		s               api.Scale
		from, to, known int
		want            api.Span
	}{
		{api.Scale{Rate: 3}, 4, 6, 0, span(-6, 6)}, {api.Scale{Rate: 3}, 6, 4, 0, span(-6, 6)},
		{api.Scale{}, 4, 600, 0, span(0, 0)}, {one, 3, 3, 10, span(0, 0)},
		{one, 10, 13, 10, span(-6, 6)}, {one, 7, 13, 10, span(-12, 12)},
		{two, 10, 13, 19, span(-6, 6)}, {two, 10, 13, 20, span(2, 3)}, {two, 13, 10, 20, span(-3, -2)},
		{api.Scale{Rate: 1000}, 0, api.MaxDay, 0, span(-2*api.MaxGram, 2*api.MaxGram)},
		{scaleOf(1000, [4]int{0, 0, -api.MaxGram, -api.MaxGram}), 0, api.MaxDay, 0, span(0, 2*api.MaxGram)},
	} {
		if y, e := course.Turn(x.s, x.from, x.to, x.known); e != api.OK || y != x.want {
			t.Error(i, y, e)
		}
	}
}

// P1.2
func TestHistory(t *testing.T) {
	two := scaleOf(2, [4]int{10, 10, 0, 1}, [4]int{13, 20, 3, 3})
	for i, x := range []struct {
		s           api.Scale
		known       int
		days, grams []int
		want        bool
	}{
		{api.Scale{Rate: 2}, 0, []int{1, 3}, []int{0, 5}, false},
		{api.Scale{Rate: 2}, 0, []int{1, 3}, []int{0, 4}, true},
		{api.Scale{Rate: 2}, 0, []int{1, 3}, []int{0, -5}, false},
		{api.Scale{Rate: 2}, 0, []int{1, 2, 3}, []int{0, 3, 2}, false},
		{api.Scale{}, 0, nil, nil, true}, {two, 20, []int{}, []int{}, true},
		{two, 20, []int{11}, []int{4}, false}, {two, 20, []int{11}, []int{3}, true},
		{two, 19, []int{11}, []int{-2}, true}, {two, 20, []int{11}, []int{-2}, false}, {two, 9, []int{10}, []int{2}, true},
		{two, 20, []int{10, 11}, []int{0, -1}, true}, {two, 20, []int{10, 11}, []int{1, -1}, true}, {two, 20, []int{9, 11}, []int{3, -1}, true},
		{two, 20, []int{9, 11}, []int{3, -2}, false},
		{api.Scale{}, 0, []int{0}, []int{api.MaxGram}, true}, {api.Scale{}, 0, []int{0}, []int{api.MaxGram + 1}, false},
		{api.Scale{}, 0, []int{0}, []int{-api.MaxGram}, true}, {api.Scale{}, 0, []int{0}, []int{-api.MaxGram - 1}, false},
		// Differences of such numbers would overflow.
		{two, 20, []int{1, 2}, []int{math.MinInt, math.MaxInt}, false}, {two, 20, []int{1, 2}, []int{math.MaxInt, math.MinInt}, false},
		{api.Scale{Rate: 1000}, 0, []int{0, api.MaxDay}, []int{-api.MaxGram, api.MaxGram}, true},
	} {
		if is, e := course.History(x.s, x.known, x.days, x.grams); e != api.OK || is != x.want {
			t.Error(i, is, e)
		}
	}
}

// P1.2
func TestExtend(t *testing.T) {
	two := scaleOf(2, [4]int{10, 10, 0, 1}, [4]int{13, 20, 3, 3})
	for i, x := range []struct {
		s                 api.Scale
		known             int
		days, grams, more []int
		want              []int
		is                bool
	}{
		{api.Scale{Rate: 2}, 0, []int{1}, []int{0}, []int{0, 1, 4}, []int{2, 0, 6}, true},
		{two, 20, []int{11}, []int{-1}, []int{10, 11, 12}, []int{1, -1, 1}, true},
		{two, 20, nil, nil, []int{0, 13, 14}, []int{21, 3, 5}, true},
		{two, 19, nil, nil, []int{13}, []int{7}, true},
		{two, 20, []int{11}, []int{9}, []int{10}, nil, false},
		{two, 20, []int{11, 12}, []int{math.MinInt, math.MaxInt}, []int{10}, nil, false},
		{two, 20, []int{11}, []int{3}, nil, nil, true},
		{api.Scale{Rate: 1}, 0, []int{5}, []int{api.MaxGram - 1}, []int{3, 5, 6, 9}, []int{api.MaxGram, api.MaxGram - 1, api.MaxGram, api.MaxGram}, true},
		{api.Scale{}, 0, nil, nil, []int{api.MaxDay}, []int{api.MaxGram}, true},
	} {
		l, is, e := course.Extend(x.s, x.known, x.days, x.grams, x.more)
		if e != api.OK || is != x.is || !slices.Equal(l, x.want) {
			t.Error(i, l, is, e)
		}
	}
}

// P1.2: the errors, in their order.
func TestDriftErrors(t *testing.T) {
	apart := scaleOf(0, [4]int{1, 1, 0, 0}, [4]int{1, 1, 1, 1})
	for i, x := range []struct {
		s          api.Scale
		day, known int
		e          api.Errno
	}{
		{api.Scale{No: -1}, -1, 0, api.ErrScale}, {apart, -1, 0, api.ErrApart}, {apart, 0, -1, api.ErrApart},
		{api.Scale{}, -1, 0, api.ErrArg}, {api.Scale{}, api.MaxDay + 1, 0, api.ErrArg}, {api.Scale{}, math.MinInt, 0, api.ErrArg},
		{api.Scale{}, 0, -1, api.ErrArg}, {api.Scale{}, 0, api.MaxDay + 1, api.ErrArg}, {api.Scale{}, 0, math.MaxInt, api.ErrArg},
	} {
		if y, e := course.Drift(x.s, x.day, x.known); e != x.e || y != (api.Span{}) {
			t.Error(i, y, e)
		}
		if y, e := course.Turn(x.s, x.day, 0, x.known); e != x.e || y != (api.Span{}) {
			t.Error(i, y, e)
		}
		if y, e := course.Turn(x.s, 0, x.day, x.known); e != x.e || y != (api.Span{}) {
			t.Error(i, y, e)
		}
	}
}

// many returns the numbers from 0 to n - 1.
func many(n int) []int {
	l := make([]int, n)
	for i := range l {
		l[i] = i
	}
	return l
}

// P1.2: the errors of the given days and of the further ones.
func TestGivenErrors(t *testing.T) {
	apart := scaleOf(0, [4]int{1, 1, 0, 0}, [4]int{1, 1, 1, 1})
	for i, x := range []struct {
		s                 api.Scale
		known             int
		days, grams, more []int
		history, extend   api.Errno
	}{
		{api.Scale{}, 0, many(64), make([]int, 64), many(64), api.OK, api.OK},
		{api.Scale{}, 0, many(65), make([]int, 65), nil, api.ErrArg, api.ErrArg},
		{api.Scale{}, 0, many(64), make([]int, 64), many(65), api.OK, api.ErrArg},
		{api.Scale{}, 0, []int{3}, nil, nil, api.ErrArg, api.ErrArg},
		{api.Scale{}, 0, nil, []int{3}, nil, api.ErrArg, api.ErrArg},
		{api.Scale{}, 0, []int{3, 3}, []int{0, 0}, nil, api.ErrArg, api.ErrArg},
		{api.Scale{}, 0, []int{4, 3}, []int{0, 0}, nil, api.ErrArg, api.ErrArg},
		{api.Scale{}, 0, []int{-1}, []int{0}, nil, api.ErrArg, api.ErrArg},
		{api.Scale{}, 0, []int{api.MaxDay + 1}, []int{0}, nil, api.ErrArg, api.ErrArg},
		{api.Scale{}, 0, []int{api.MaxDay}, []int{0}, []int{api.MaxDay}, api.OK, api.OK},
		{api.Scale{}, 0, nil, nil, []int{3, 3}, api.OK, api.ErrArg},
		{api.Scale{}, 0, nil, nil, []int{-1}, api.OK, api.ErrArg},
		{api.Scale{}, 0, nil, nil, []int{api.MaxDay + 1}, api.OK, api.ErrArg},
		{api.Scale{}, 0, []int{1}, []int{math.MaxInt}, []int{-1}, api.OK, api.ErrArg},
		{api.Scale{}, -1, nil, nil, nil, api.ErrArg, api.ErrArg},
		{api.Scale{}, api.MaxDay + 1, nil, nil, nil, api.ErrArg, api.ErrArg},
		{api.Scale{Rate: -1}, -1, nil, nil, nil, api.ErrScale, api.ErrScale},
		{apart, -1, []int{3}, nil, nil, api.ErrApart, api.ErrApart},
	} {
		if is, e := course.History(x.s, x.known, x.days, x.grams); e != x.history || is && e != api.OK {
			t.Error(i, is, e)
		}
		l, is, e := course.Extend(x.s, x.known, x.days, x.grams, x.more)
		if e != x.extend || e != api.OK && (is || len(l) != 0) {
			t.Error(i, l, is, e)
		}
	}
}

// P1.7: exactly the drifts and turns of all histories, found by trying.
func TestExactEnds(t *testing.T) {
	eachSmall(t, 80, func(_ *rand.Rand, s api.Scale, known int, all [][]int) {
		for a := range window {
			x, e := course.Drift(s, a, known)
			if want := values(all, func(h []int) int { return h[a] }); e != api.OK || !slices.Equal(whole(x), want) {
				t.Fatal(s, known, a, x, e, want)
			}
			for b := range window {
				x, e := course.Turn(s, a, b, known)
				if want := values(all, func(h []int) int { return h[b] - h[a] }); e != api.OK || !slices.Equal(whole(x), want) {
					t.Fatal(s, known, a, b, x, e, want)
				}
			}
		}
	})
}

// chosen returns some days of the window, and drifts on them near those of a history.
func chosen(r *rand.Rand, h []int) ([]int, []int) {
	var days, grams []int
	for day := range window {
		if r.Intn(2) == 0 {
			days = append(days, day)
			grams = append(grams, h[day]+r.Intn(3)/2)
		}
	}
	return days, grams
}

// matching returns the histories that have the given drifts.
func matching(all [][]int, days, grams []int) [][]int {
	var l [][]int
	for _, h := range all {
		same := true
		for i, day := range days {
			same = same && h[day] == grams[i]
		}
		if same {
			l = append(l, h)
		}
	}
	return l
}

// P1.6, P1.7: History as tried out and by pairs; Extend returns the history that is nowhere less.
func TestGivenDrifts(t *testing.T) {
	seen := map[bool]int{}
	eachSmall(t, 120, func(r *rand.Rand, s api.Scale, known int, all [][]int) {
		days, grams := chosen(r, all[r.Intn(len(all))])
		left := matching(all, days, grams)
		is, e := course.History(s, known, days, grams)
		if e != api.OK || is != (len(left) > 0) || is != byPairs(t, s, known, days, grams) {
			t.Fatal(s, known, days, grams, is, e, len(left))
		}
		seen[is]++
		l, found, e := course.Extend(s, known, days, grams, many(window))
		if e != api.OK || found != is {
			t.Fatal(s, known, days, grams, l, found, e)
		}
		if !is {
			return
		}
		if !slices.ContainsFunc(left, func(h []int) bool { return slices.Equal(h, l) }) {
			t.Fatal("no history with these drifts", s, known, days, grams, l)
		}
		for _, h := range left {
			for day := range window {
				if h[day] > l[day] {
					t.Fatal(s, known, days, grams, l, h)
				}
			}
		}
	})
	if seen[true] < 20 || seen[false] < 20 {
		t.Error(seen)
	}
}

// byPairs reports whether there are histories for each one and for each two of the given drifts.
func byPairs(t *testing.T, s api.Scale, known int, days, grams []int) bool {
	t.Helper()
	for i := range days {
		for j := i; j < len(days); j++ {
			d, g := []int{days[i]}, []int{grams[i]}
			if i != j {
				d, g = append(d, days[j]), append(g, grams[j])
			}
			is, e := course.History(s, known, d, g)
			if e != api.OK {
				t.Fatal(e)
			}
			if !is {
				return false
			}
		}
	}
	return true
}

// P1.8: a further test and a later day never widen drifts and turns.
func TestMoreIsKnown(t *testing.T) {
	eachSmall(t, 200, func(r *rand.Rand, s api.Scale, known int, _ [][]int) {
		a, b := r.Intn(window), r.Intn(window)
		later := known + r.Intn(5)
		lo := s.Tests[0].Lo - 1 + r.Intn(3)
		further, e := course.AddTest(s, api.Test{Day: r.Intn(window), Known: s.Tests[len(s.Tests)-1].Known, Lo: lo, Hi: lo + r.Intn(2)})
		if e != api.OK {
			further = s
		}
		d, _ := course.Drift(s, a, known)
		u, _ := course.Turn(s, a, b, known)
		for _, y := range []struct {
			s     api.Scale
			known int
		}{{s, later}, {further, known}, {further, later}} {
			if x, e := course.Drift(y.s, a, y.known); e != api.OK || !within(d, x) {
				t.Fatal(s, y, a, d, x, e)
			}
			if x, e := course.Turn(y.s, a, b, y.known); e != api.OK || !within(u, x) {
				t.Fatal(s, y, a, b, u, x, e)
			}
		}
	})
}

// P1.2: arguments are left as they are.
func TestHistoryLeavesArguments(t *testing.T) {
	s := scaleOf(2, [4]int{10, 10, 0, 1}, [4]int{13, 20, 3, 3})
	s.Tests = append(make([]api.Test, 0, 9), s.Tests...)
	days, grams, more := []int{10, 11}, []int{1, 2}, []int{3, 4}
	if _, is, e := course.Extend(s, 10, days, grams, more); e != api.OK || !is {
		t.Fatal(is, e)
	}
	if !slices.Equal(days, []int{10, 11}) || !slices.Equal(grams, []int{1, 2}) || !slices.Equal(more, []int{3, 4}) {
		t.Error(days, grams, more)
	}
	if s.Tests[1] != (api.Test{Day: 13, Known: 20, Lo: 3, Hi: 3}) || s.Tests[:3][2] != (api.Test{}) {
		t.Error(s.Tests[:3])
	}
}
