package pillow_test

import (
	"math"
	"math/rand"
	"slices"
	"testing"

	"snowline/api"
	"snowline/pillow"
)

func span(lo, hi int) api.Span { return api.Span{Lo: lo, Hi: hi} }

// spans returns a list of spans with these ends.
func spans(l ...int) []api.Span {
	var out []api.Span
	for i := 0; i < len(l); i += 2 {
		out = append(out, span(l[i], l[i+1]))
	}
	return out
}

// logOf returns the log of successive days with these weights.
func logOf(weights ...int) []api.Shown {
	var l []api.Shown
	for i, x := range weights {
		l = append(l, api.Shown{Day: 10 + i, Weight: x})
	}
	return l
}

// of returns a pillow with a log of successive days, unchecked.
func of(noise, slab, jump, faults int, weights ...int) api.Pillow {
	return api.Pillow{Noise: noise, Slab: slab, Jump: jump, Faults: faults, Log: logOf(weights...)}
}

// a is the pillow of the chapter's examples.
func a() api.Pillow { return of(5, 30, 20, 1, 100, 180, 110) }

// w is its weather.
func w() []api.Span { return spans(0, 30, -10, 30) }

// invalid returns pillows that are not valid.
func invalid() []api.Pillow {
	l := []api.Pillow{of(0, 0, 0, 0, -1), of(0, 0, 0, 0, 5, 65537), of(0, 0, 0, 0, 5, math.MaxInt, 5), {Log: make([]api.Shown, 2)}}
	for _, x := range []int{-1, math.MinInt, math.MaxInt} {
		l = append(l, api.Pillow{No: x}, api.Pillow{Cell: x}, of(x, 0, 0, 0), of(0, x, 0, 0), of(0, 0, x, 0), of(0, 0, 0, x))
		l = append(l, api.Pillow{Log: []api.Shown{{Day: x}}}, api.Pillow{Log: []api.Shown{{Day: 3}, {Day: x}}})
	}
	l = append(l, api.Pillow{No: 4096}, api.Pillow{Cell: 4096}, of(65537, 0, 0, 0), of(0, 65537, 0, 0), of(0, 0, 65537, 0), of(0, 0, 0, 33))
	l = append(l, api.Pillow{Log: []api.Shown{{Day: api.MaxDay + 1}}}, api.Pillow{Log: []api.Shown{{Day: 3}, {Day: 2}}})
	return append(l, of(0, 0, 0, 0, make([]int, 33)...), of(0, 0, 0, 0, make([]int, 9999)...))
}

// invalidWeather returns lists of spans that are no weather of a.
func invalidWeather() [][]api.Span {
	return [][]api.Span{
		nil, spans(0, 30), spans(0, 30, -10, 30, 0, 0), spans(0, 30, 1, 0), spans(1, 0, 0, 0), spans(0, 65537, 0, 0), spans(-65537, 0, 0, 0),
		spans(0, 0, 65537, 65537), spans(0, 0, -65537, -65537), spans(math.MinInt, math.MaxInt, 0, 0), spans(math.MaxInt, math.MinInt, 0, 0),
	}
}

// invalidCases returns lists of states that are no cases of a.
func invalidCases() [][]int {
	return [][]int{
		nil, {0, 0}, {0, 0, 0, 0}, {2, 0, 0}, {0, 2, 2}, {0, 3, 0}, {0, -1, 0}, {3, 0, 0}, {-1, 0, 0}, {0, 0, math.MaxInt}, {math.MinInt, 0, 0}, make([]int, 9999),
	}
}

// wide returns n spans that allow any change.
func wide(n int) []api.Span { return slices.Repeat(spans(-65536, 65536), n) }

// small returns a valid pillow with at most n entries and its weather, such that all of its cases and loads can be tried: its loads are near 0, near 65536 or far from both.
func small(r *rand.Rand, n int) (api.Pillow, []api.Span) {
	base := []int{0, 0, 500, api.MaxWater - 8}[r.Intn(4)]
	var weights []int
	var weather []api.Span
	for i := range 1 + r.Intn(n) {
		weights = append(weights, base+r.Intn(9))
		if i > 0 {
			lo := r.Intn(7) - 4
			weather = append(weather, span(lo, lo+r.Intn(5)))
		}
	}
	return of(r.Intn(3), r.Intn(4), r.Intn(4), r.Intn(4), weights...), weather
}

// eachSmall calls f with many small pillows and their weather.
func eachSmall(f func(r *rand.Rand, p api.Pillow, w []api.Span)) {
	r := rand.New(rand.NewSource(3))
	for range 2000 {
		p, w := small(r, 4)
		f(r, p, w)
	}
}

// allStates returns all lists of n states, valid or not, in lexicographic order.
func allStates(n int) [][]int {
	l := [][]int{{}}
	for range n {
		var longer [][]int
		for _, x := range l {
			for state := range 3 {
				longer = append(longer, append(slices.Clone(x), state))
			}
		}
		l = longer
	}
	return l
}

// isCase says what a valid case is, in the words of the chapter.
func isCase(p api.Pillow, l []int) bool {
	faults := 0
	for i, state := range l {
		if state == api.FaultP {
			faults++
		}
		if i == 0 || l[i-1] == state {
			continue
		}
		more := p.Log[i].Weight - p.Log[i-1].Weight
		if more != 0 && more <= p.Jump && -more <= p.Jump {
			return false
		}
	}
	return (len(l) == 0 || l[0] != api.FaultP) && faults <= p.Faults
}

// may says whether an entry allows a load in a state.
func may(p api.Pillow, entry, state, load int) bool {
	x := p.Log[entry].Weight
	switch {
	case load < 0 || load > api.MaxWater:
		return false
	case state == api.GoodP:
		return x-p.Noise <= load && load <= x+p.Noise
	case state == api.BridgeP:
		return x-p.Noise <= load && load <= x+p.Noise+p.Slab
	}
	return true
}

// eachWorld calls f with all loads that are possible in a case of a small pillow.
func eachWorld(p api.Pillow, w []api.Span, l []int, f func(loads []int)) {
	var grow func(loads []int)
	grow = func(loads []int) {
		n := len(loads)
		if n == len(l) {
			f(loads)
			return
		}
		from := span(p.Log[0].Weight-10, p.Log[0].Weight+10)
		if n > 0 {
			from = span(loads[n-1]+w[n-1].Lo, loads[n-1]+w[n-1].Hi)
		}
		for x := from.Lo; x <= from.Hi; x++ {
			if may(p, n, l[n], x) {
				grow(append(loads, x))
			}
		}
	}
	grow(nil)
}

// occurring returns, for each entry, the loads that occur in a case of a small pillow, in increasing order.
func occurring(p api.Pillow, w []api.Span, l []int) [][]int {
	seen := make([]map[int]bool, len(l))
	for i := range seen {
		seen[i] = map[int]bool{}
	}
	eachWorld(p, w, l, func(loads []int) {
		for i, x := range loads {
			seen[i][x] = true
		}
	})
	out := make([][]int, len(l))
	for i, m := range seen {
		out[i] = sorted(m)
	}
	return out
}

func sorted(m map[int]bool) []int {
	var l []int
	for x := range m {
		l = append(l, x)
	}
	slices.Sort(l)
	return l
}

// remaining returns the valid cases of a small pillow that remain, by trying all of them.
func remaining(p api.Pillow, w []api.Span) [][]int {
	var out [][]int
	for _, l := range allStates(len(p.Log)) {
		if isCase(p, l) && (len(l) == 0 || len(occurring(p, w, l)[0]) > 0) {
			out = append(out, l)
		}
	}
	return out
}

// whole returns all integers of some spans.
func whole(l ...api.Span) []int {
	var out []int
	for _, s := range l {
		for x := s.Lo; x <= s.Hi; x++ {
			out = append(out, x)
		}
	}
	return out
}

// long returns a valid pillow with many entries and its weather, most of whose cases do not remain.
func long(r *rand.Rand) (api.Pillow, []api.Span) {
	load := 1000
	var weights []int
	var weather []api.Span
	for i := range 8 + r.Intn(25) {
		if i > 0 {
			more := r.Intn(41) - 20
			lo, hi := r.Intn(4), r.Intn(4)
			load += more
			weather = append(weather, span(more-lo, more+hi))
		}
		weights = append(weights, load+[]int{0, 0, 0, 0, -30, 60}[r.Intn(6)]+r.Intn(5)-2)
	}
	return of(2+r.Intn(2), 25+r.Intn(10), 20+r.Intn(20), r.Intn(4), weights...), weather
}

// eachLong calls f with some long pillows and their weather, and the cases that remain, if these are not too many.
func eachLong(t *testing.T, f func(r *rand.Rand, p api.Pillow, w []api.Span, cases [][]int)) {
	t.Helper()
	r := rand.New(rand.NewSource(4))
	some := 0
	for range 400 {
		p, w := long(r)
		cases, e := pillow.Cases(p, w)
		if e == api.ErrLimit {
			continue
		}
		if e != api.OK {
			t.Fatal(p, w, e)
		}
		if len(cases) > 0 {
			some++
		}
		f(r, p, w, cases)
	}
	if some < 50 {
		t.Error(some)
	}
}

// begun returns the beginning of a pillow with n entries, and its weather.
func begun(p api.Pillow, w []api.Span, n int) (api.Pillow, []api.Span) {
	p.Log = p.Log[:n]
	return p, w[:max(0, n-1)]
}

func sameCases(a, b [][]int) bool { return slices.EqualFunc(a, b, slices.Equal) }

func within(outer, inner api.Span) bool { return outer.Lo <= inner.Lo && inner.Hi <= outer.Hi }

func same(p, q api.Pillow) bool {
	l, m := p.Log, q.Log
	p.Log, q.Log = nil, nil
	return p.No == q.No && p.Cell == q.Cell && p.Noise == q.Noise && p.Slab == q.Slab && p.Jump == q.Jump && p.Faults == q.Faults && slices.Equal(l, m)
}

func loadsOf(t *testing.T, p api.Pillow, w []api.Span, l []int) []api.Span {
	t.Helper()
	s, e := pillow.Loads(p, w, l)
	if e != api.OK {
		t.Fatal(p, w, l, e)
	}
	return s
}

func aliveOf(t *testing.T, p api.Pillow, w []api.Span, l []int) bool {
	t.Helper()
	is, e := pillow.Alive(p, w, l)
	if e != api.OK {
		t.Fatal(p, w, l, e)
	}
	return is
}
