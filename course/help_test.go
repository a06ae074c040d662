package course_test

import (
	"math/rand"
	"slices"
	"testing"

	"snowline/api"
	"snowline/course"
)

func span(lo, hi int) api.Span { return api.Span{Lo: lo, Hi: hi} }

// scaleOf returns a scale with tests {day, known, lo, hi}, unchecked.
func scaleOf(rate int, l ...[4]int) api.Scale {
	s := api.Scale{Rate: rate}
	for _, x := range l {
		s.Tests = append(s.Tests, api.Test{Day: x[0], Known: x[1], Lo: x[2], Hi: x[3]})
	}
	return s
}

func within(outer, inner api.Span) bool { return outer.Lo <= inner.Lo && inner.Hi <= outer.Hi }

// window is how many days the enumerated histories have; the days beyond them can repeat the drifts at the ends.
const window = 5

// small is a random scale whose tests lie in the days of the window, with drifts near middle.
func small(r *rand.Rand, middle int) api.Scale {
	s := api.Scale{Rate: r.Intn(3)}
	known := 0
	for range 1 + r.Intn(4) {
		known += r.Intn(3)
		lo := max(-api.MaxGram, min(api.MaxGram, middle-2+r.Intn(5)))
		hi := min(api.MaxGram, lo+r.Intn(3))
		s.Tests = append(s.Tests, api.Test{Day: r.Intn(window), Known: known, Lo: lo, Hi: hi})
	}
	return s
}

// middles are drifts around which scales are tried: those at the ends are cut there.
func middles() []int { return []int{0, 0, api.MaxGram - 1, 1 - api.MaxGram} }

// histories returns all histories of s on the days of the window, found by trying all drifts. At least one test has to be known.
func histories(s api.Scale, known, middle int) [][]int {
	var all [][]int
	fits := func(day, x int) bool {
		for _, t := range s.Tests {
			if t.Known <= known && t.Day == day && (x < t.Lo || x > t.Hi) {
				return false
			}
		}
		return -api.MaxGram <= x && x <= api.MaxGram
	}
	var grow func(h []int)
	grow = func(h []int) {
		if len(h) == window {
			all = append(all, slices.Clone(h))
			return
		}
		lo, hi := middle-20, middle+20
		if len(h) > 0 {
			lo, hi = h[len(h)-1]-s.Rate, h[len(h)-1]+s.Rate
		}
		for x := lo; x <= hi; x++ {
			if fits(len(h), x) {
				grow(append(h, x))
			}
		}
	}
	grow(nil)
	return all
}

// values returns what f tells of the histories, in increasing order, each once.
func values(all [][]int, f func(h []int) int) []int {
	seen := map[int]bool{}
	for _, h := range all {
		seen[f(h)] = true
	}
	var l []int
	for x := range seen {
		l = append(l, x)
	}
	slices.Sort(l)
	return l
}

// whole returns all integers of s.
func whole(s api.Span) []int {
	var l []int
	for x := s.Lo; x <= s.Hi; x++ {
		l = append(l, x)
	}
	return l
}

// eachSmall calls f for scales without contradictions, each as known on a day on which a test is known, and all of its histories.
func eachSmall(t *testing.T, n int, f func(r *rand.Rand, s api.Scale, known int, all [][]int)) {
	t.Helper()
	r := rand.New(rand.NewSource(1))
	tried := 0
	for i := 0; tried < n; i++ {
		middle := middles()[i%4]
		s := small(r, middle)
		if course.CheckScale(s) != api.OK {
			continue
		}
		tried++
		known := s.Tests[r.Intn(len(s.Tests))].Known
		f(r, s, known, histories(s, known, middle))
	}
}
