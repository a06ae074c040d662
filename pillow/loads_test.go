package pillow_test

import (
	"math"
	"math/rand"
	"slices"
	"testing"

	"snowline/api"
	"snowline/pillow"
)

// P3.2
func TestLoads(t *testing.T) {
	for i, x := range []struct {
		p    api.Pillow
		w    []api.Span
		l    []int
		want []api.Span
	}{
		{api.Pillow{}, nil, nil, nil},
		{a(), w(), []int{0, 2, 0}, spans(95, 105, 95, 125, 105, 115)}, {a(), w(), []int{1, 2, 1}, spans(95, 135, 95, 155, 105, 145)},
		// Loads are from 0 to 65536.
		{of(5, 30, 0, 0, 3), nil, []int{0}, spans(0, 8)}, {of(5, 30, 0, 0, 3), nil, []int{1}, spans(0, 38)}, {of(5, 30, 0, 0, 65530), nil, []int{0}, spans(65525, 65535)},
		{of(5, 30, 0, 0, 65530), nil, []int{1}, spans(65525, 65536)}, {of(65536, 65536, 0, 0, 65536), nil, []int{1}, spans(0, 65536)}, {of(0, 0, 0, 0, 0), nil, []int{1}, spans(0, 0)},
		{of(1, 0, 0, 1, 9, 9), wide(1), []int{0, 2}, spans(8, 10, 0, 65536)}, {of(1, 0, 0, 1, 9, 9), spans(-10, -9), []int{0, 2}, spans(9, 10, 0, 1)},
		{of(1, 0, 0, 1, 65530, 9), spans(6, 9), []int{0, 2}, spans(65529, 65530, 65535, 65536)},
		// What comes later tells of what was ahead, over faults too.
		{of(0, 9, 0, 1, 50, 50), spans(0, 0), []int{1, 0}, spans(50, 50, 50, 50)}, {of(0, 30, 0, 2, 50, 9, 9, 62), spans(1, 2, 1, 2, 1, 2), []int{1, 2, 2, 0}, spans(56, 59, 58, 60, 60, 61, 62, 62)},
		{of(1, 30, 0, 0, 50, 60, 50), spans(-3, 4, -5, -5), []int{1, 1, 0}, nil},
		{of(1, 30, 0, 0, 50, 55, 50), spans(-3, 4, -5, -5), []int{1, 1, 0}, spans(50, 59, 54, 56, 49, 51)},
	} {
		is, e := pillow.Alive(x.p, x.w, x.l)
		if is != (len(x.want) > 0 || len(x.p.Log) == 0) || e != api.OK {
			t.Error(i, is, e)
		}
		l, e := pillow.Loads(x.p, x.w, x.l)
		if !slices.Equal(l, x.want) || (e == api.OK) != is || !is && e != api.ErrRefuted {
			t.Error(i, l, e)
		}
	}
	if is, e := pillow.Alive(a(), w(), []int{0, 0, 0}); is || e != api.OK {
		t.Error(is, e)
	}
	if l, e := pillow.Loads(a(), w(), []int{0, 0, 0}); len(l) != 0 || e != api.ErrRefuted {
		t.Error(l, e)
	}
}

// P3.3
func TestWitness(t *testing.T) {
	if l, e := pillow.Witness(a(), w(), []int{0, 0, 0}, 0, true); len(l) != 0 || e != api.ErrRefuted {
		t.Error(l, e)
	}
	for i, x := range []struct {
		p    api.Pillow
		w    []api.Span
		l    []int
		want []api.Span
	}{
		{a(), w(), []int{0, 2, 0}, spans(95, 105, 95, 125, 105, 115)}, {a(), w(), []int{0, 2, 1}, spans(95, 105, 95, 135, 105, 145)}, {of(5, 30, 0, 0, 3), nil, []int{1}, spans(0, 38)},
		{of(0, 30, 0, 2, 50, 9, 9, 62), spans(1, 2, 1, 2, 1, 2), []int{1, 2, 2, 0}, spans(56, 59, 58, 60, 60, 61, 62, 62)},
	} {
		for entry, s := range x.want {
			for most, end := range map[bool]int{false: s.Lo, true: s.Hi} {
				loads, e := pillow.Witness(x.p, x.w, x.l, entry, most)
				if e != api.OK || len(loads) != len(x.l) || loads[entry] != end || pillow.CheckWitness(x.p, x.w, x.l, loads) != api.OK {
					t.Error(i, entry, most, loads, e)
				}
			}
		}
	}
}

// P3.3
func TestCheckWitness(t *testing.T) {
	for i, x := range []struct {
		loads []int
		e     api.Errno
	}{
		{[]int{100, 100, 110}, api.OK}, {[]int{95, 95, 105}, api.OK}, {[]int{95, 125, 115}, api.OK}, {[]int{105, 125, 115}, api.OK}, {[]int{100, 99, 110}, api.ErrLoad}, {[]int{95, 126, 116}, api.ErrLoad},
		{[]int{95, 126, 115}, api.ErrLoad}, {[]int{94, 100, 110}, api.ErrLoad}, {[]int{106, 110, 110}, api.ErrLoad}, {[]int{100, 125, 114}, api.ErrLoad}, {[]int{100, 100, 104}, api.ErrLoad}, {[]int{100, 110, 116}, api.ErrLoad},
		{nil, api.ErrLoad}, {[]int{100, 100}, api.ErrLoad}, {[]int{100, 100, 110, 110}, api.ErrLoad}, {[]int{math.MinInt, math.MaxInt, 110}, api.ErrLoad}, {[]int{math.MaxInt, math.MinInt, 110}, api.ErrLoad},
		{[]int{100, math.MinInt, math.MaxInt}, api.ErrLoad}, {[]int{100, math.MaxInt, math.MinInt}, api.ErrLoad}, {[]int{100, 110, math.MinInt}, api.ErrLoad}, {[]int{100, 110, math.MaxInt}, api.ErrLoad}, {make([]int, 9999), api.ErrLoad},
	} {
		if e := pillow.CheckWitness(a(), w(), []int{0, 2, 0}, x.loads); e != x.e {
			t.Error(i, e)
		}
	}
	deep, free := of(3, 0, 0, 1, 65534, 0), of(3, 0, 0, 1, 2, 0)
	for load, e := range map[int]api.Errno{65531: api.OK, 65536: api.OK, 65537: api.ErrLoad, 65530: api.ErrLoad} {
		if got := pillow.CheckWitness(deep, wide(1), []int{0, 2}, []int{load, 0}); got != e {
			t.Error(load, got)
		}
	}
	for load, e := range map[int]api.Errno{0: api.OK, 65536: api.OK, 65537: api.ErrLoad, -1: api.ErrLoad} {
		if got := pillow.CheckWitness(free, wide(1), []int{0, 2}, []int{0, load}); got != e {
			t.Error(load, got)
		}
	}
	if got := pillow.CheckWitness(free, wide(1), []int{0, 2}, []int{-1, 0}); got != api.ErrLoad {
		t.Error(got)
	}
	if got := pillow.CheckWitness(api.Pillow{}, nil, nil, nil); got != api.OK {
		t.Error(got)
	}
	if got := pillow.CheckWitness(api.Pillow{}, nil, nil, []int{0}); got != api.ErrLoad {
		t.Error(got)
	}
	// A case that does not remain has no possible loads.
	if got := pillow.CheckWitness(a(), w(), []int{0, 0, 0}, []int{105, 135, 115}); got != api.ErrLoad {
		t.Error(got)
	}
}

// P3.2, P3.8: the ends are those of all loads that are possible, found by trying, and every load between them occurs.
func TestLoadsByTrying(t *testing.T) {
	dead, live := 0, 0
	eachSmall(func(_ *rand.Rand, p api.Pillow, w []api.Span) {
		for _, l := range allStates(len(p.Log)) {
			if !isCase(p, l) {
				continue
			}
			occur := occurring(p, w, l)
			if len(occur[0]) == 0 {
				dead++
				if _, e := pillow.Loads(p, w, l); e != api.ErrRefuted || aliveOf(t, p, w, l) {
					t.Fatal(p, w, l, e)
				}
				continue
			}
			live++
			if !aliveOf(t, p, w, l) {
				t.Fatal(p, w, l)
			}
			for entry, s := range loadsOf(t, p, w, l) {
				if !slices.Equal(whole(s), occur[entry]) {
					t.Fatal(p, w, l, entry, s, occur[entry])
				}
			}
		}
	})
	if dead < 500 || live < 500 {
		t.Error(dead, live)
	}
}

// P3.8: what Witness returns is accepted and reaches the ends.
func TestWitnessesReachTheEnds(t *testing.T) {
	check := func(p api.Pillow, w []api.Span, l []int) {
		ends := loadsOf(t, p, w, l)
		for entry, s := range ends {
			for most, end := range map[bool]int{false: s.Lo, true: s.Hi} {
				loads, e := pillow.Witness(p, w, l, entry, most)
				if e != api.OK || loads[entry] != end || pillow.CheckWitness(p, w, l, loads) != api.OK {
					t.Fatal(p, w, l, entry, most, loads, e)
				}
			}
		}
	}
	eachSmall(func(_ *rand.Rand, p api.Pillow, w []api.Span) {
		for _, l := range remaining(p, w) {
			check(p, w, l)
		}
	})
	eachLong(t, func(_ *rand.Rand, p api.Pillow, w []api.Span, cases [][]int) {
		for _, l := range cases {
			check(p, w, l)
		}
	})
}

// P3.3, P3.8: CheckWitness accepts exactly the loads that are possible.
func TestCheckWitnessByTrying(t *testing.T) {
	accepted, refused := 0, 0
	eachSmall(func(r *rand.Rand, p api.Pillow, w []api.Span) {
		for _, l := range remaining(p, w) {
			eachWorld(p, w, l, func(loads []int) {
				if r.Intn(20) > 0 {
					return
				}
				near := slices.Clone(loads)
				near[r.Intn(len(near))] += r.Intn(9) - 4
				is := true
				for i, x := range near {
					is = is && may(p, i, l[i], x) && (i == 0 || w[i-1].Lo <= x-near[i-1] && x-near[i-1] <= w[i-1].Hi)
				}
				e := pillow.CheckWitness(p, w, l, near)
				if (e == api.OK) != is || e != api.OK && e != api.ErrLoad || pillow.CheckWitness(p, w, l, loads) != api.OK {
					t.Fatal(p, w, l, near, is, e)
				}
				if is {
					accepted++
				} else {
					refused++
				}
			})
		}
	})
	if accepted < 500 || refused < 500 {
		t.Error(accepted, refused)
	}
}
