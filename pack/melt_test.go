package pack_test

import (
	"math"
	"math/rand"
	"testing"

	"snowline/api"
	"snowline/pack"
)

// P2.3
func TestReady(t *testing.T) {
	for i, x := range []struct {
		p    api.Pack
		want int
	}{
		{a(), 10}, {api.Pack{}, 0}, {of([3]int{18, 0, 3}), 4}, {of([3]int{18, 0, 1}), 1}, {of([3]int{60, 1, 0}, [3]int{10, 0, 0}), 2}, {high(64, 19), 0},
		// Such a pack would have too much water then.
		{of([3]int{65536, 0, 0}), 3276}, {of([3]int{65536, 0, 65536}), 65536 + 6553}, {of([3]int{62416, 3120, 0}), 0},
	} {
		if n, e := pack.Ready(x.p); n != x.want || e != api.OK {
			t.Error(i, n, e)
		}
	}
}

// P2.3
func TestYield(t *testing.T) {
	for i, x := range []struct {
		p          api.Pack
		melt, want int
	}{
		{a(), 0, 0}, {a(), 1, 0}, {a(), 20, 11}, {a(), 21, 13}, {a(), 40, 32}, {a(), 144, 141}, {a(), 145, 142}, {a(), 65536, 142}, {api.Pack{}, 9, 0},
		{of([3]int{65536, 0, 0}), 65536, 65536}, {of([3]int{65536, 0, 0}), 65535, 65535}, {of([3]int{9, 0, 65536}), 65536, 0},
	} {
		if n, e := pack.Yield(x.p, x.melt); n != x.want || e != api.OK {
			t.Error(i, n, e)
		}
	}
	for _, melt := range []int{-1, 65537, math.MinInt, math.MaxInt} {
		if n, e := pack.Yield(a(), melt); n != 0 || e != api.ErrArg {
			t.Error(melt, n, e)
		}
	}
}

// P2.3
func TestEnough(t *testing.T) {
	for i, x := range []struct {
		p         api.Pack
		out, want int
		is        bool
	}{
		{a(), 0, 0, true}, {a(), 1, 10, true}, {a(), 11, 20, true}, {a(), 12, 21, true}, {a(), 13, 21, true}, {a(), 32, 40, true}, {a(), 142, 145, true}, {a(), 143, 0, false},
		{a(), 65536, 0, false}, {api.Pack{}, 0, 0, true}, {api.Pack{}, 1, 0, false}, {of([3]int{65536, 0, 0}), 65536, 65536, true},
		// All 65536 that melt are needed, or do not suffice.
		{of([3]int{6, 0, 65530}), 6, 65536, true}, {of([3]int{6, 0, 65531}), 5, 65536, true}, {of([3]int{6, 0, 65531}), 6, 0, false},
	} {
		if n, is, e := pack.Enough(x.p, x.out); n != x.want || is != x.is || e != api.OK {
			t.Error(i, n, is, e)
		}
	}
	for _, out := range []int{-1, 65537, math.MinInt, math.MaxInt} {
		if n, is, e := pack.Enough(a(), out); n != 0 || is || e != api.ErrArg {
			t.Error(out, n, is, e)
		}
	}
}

// P2.3: a melt at a time, as the chapter tells it.
func TestMeltSlowly(t *testing.T) {
	eachRandom(func(r *rand.Rand, p api.Pack) {
		w := slowOf(p)
		melt, enough := 0, 0
		for len(w.layers) > 0 {
			if n, e := pack.Yield(p, melt); n != w.out || e != api.OK {
				t.Fatal(p, melt, n, e)
			}
			w.melt()
			melt++
			for ; enough < w.out; enough++ {
				if len(p.Layers) < 6 || enough%50 == 0 {
					checkEnough(t, p, enough+1, melt)
				}
			}
		}
	})
}

func checkEnough(t *testing.T, p api.Pack, out, want int) {
	t.Helper()
	if n, is, e := pack.Enough(p, out); n != want || !is || e != api.OK {
		t.Fatal(p, out, n, is, e)
	}
}

// P2.9
func TestRainBeyondReady(t *testing.T) {
	eachRandom(func(r *rand.Rand, p api.Pack) {
		ready, e := pack.Ready(p)
		if e != api.OK {
			t.Fatal(p, e)
		}
		for _, much := range []int{0, r.Intn(ready + 1), max(0, ready-1), ready, ready + 1, ready + r.Intn(300)} {
			if _, out := applied(t, p, step(api.RainS, much)); out != max(0, much-ready) {
				t.Fatal(p, ready, much, out)
			}
		}
	})
}

// P2.10
func TestMoreYieldsMore(t *testing.T) {
	eachRandom(func(r *rand.Rand, p api.Pack) {
		less := r.Intn(400)
		more := less + r.Intn(400)
		x, _ := pack.Yield(p, less)
		y, _ := pack.Yield(p, more)
		if x > y || y > waterOf(t, p) {
			t.Fatal(p, less, x, more, y)
		}
		q, out := applied(t, p, step(api.MeltS, 65536))
		if len(q.Layers) > 0 || out != waterOf(t, p) {
			t.Fatal(p, q, out)
		}
	})
}

// P2.10: what Enough returns suffices, and one less does not.
func TestLeastMelt(t *testing.T) {
	eachRandom(func(r *rand.Rand, p api.Pack) {
		out := r.Intn(waterOf(t, p) + 2)
		n, is, e := pack.Enough(p, out)
		if e != api.OK || is != (out <= waterOf(t, p)) {
			t.Fatal(p, out, n, is, e)
		}
		if !is {
			return
		}
		if y, _ := pack.Yield(p, n); y < out {
			t.Fatal(p, out, n, y)
		}
		if n == 0 {
			return
		}
		if y, _ := pack.Yield(p, n-1); y >= out {
			t.Fatal(p, out, n, y)
		}
	})
}
