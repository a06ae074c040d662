package pack_test

import (
	"math"
	"math/rand"
	"testing"

	"snowline/api"
	"snowline/pack"
)

func less(t *testing.T, p, q api.Pack) bool {
	t.Helper()
	is, e := pack.Less(p, q)
	if e != api.OK {
		t.Fatal(p, q, e)
	}
	return is
}

// P2.5
func TestLess(t *testing.T) {
	one := of([3]int{90, 0, 4})
	for i, x := range []struct {
		p, q api.Pack
		want bool
	}{
		{api.Pack{}, api.Pack{}, true}, {api.Pack{}, a(), true}, {a(), api.Pack{}, false}, {a(), a(), true}, {one, a(), true}, {a(), one, false},
		{of([3]int{100, 0, 5}), a(), true}, {of([3]int{101, 0, 5}), a(), false}, {of([3]int{100, 0, 6}), a(), false}, {of([3]int{20, 1, 0}), a(), false},
		// They are counted from the bottom.
		{of([3]int{40, 2, 0}), a(), false}, {of([3]int{1, 0, 0}, [3]int{100, 0, 5}), a(), true}, {of([3]int{41, 2, 0}, [3]int{1, 0, 0}), a(), false},
		{of([3]int{40, 0, 1}, [3]int{1, 0, 0}), a(), false}, {of([3]int{40, 2, 0}, [3]int{60, 3, 0}), of([3]int{40, 2, 0}, [3]int{60, 2, 0}), false},
		{of([3]int{1, 0, 0}, [3]int{1, 0, 0}, [3]int{1, 0, 0}), a(), false},
	} {
		if is := less(t, x.p, x.q); is != x.want {
			t.Error(i, is)
		}
	}
}

// P2.5
func TestJoined(t *testing.T) {
	three := of([3]int{50, 0, 0}, [3]int{20, 1, 0}, [3]int{30, 0, 4})
	for i, x := range []struct {
		p    api.Pack
		n    int
		want api.Pack
	}{
		{a(), 1, of([3]int{142, 0, 3})}, {a(), 2, a()}, {a(), 64, a()}, {api.Pack{}, 1, api.Pack{}},
		{three, 3, three}, {three, 2, of([3]int{50, 0, 0}, [3]int{51, 0, 3})}, {three, 1, of([3]int{101, 0, 3})},
		// Of equal pairs the uppermost.
		{of([3]int{5, 0, 1}, [3]int{5, 0, 0}, [3]int{5, 0, 0}), 2, of([3]int{10, 0, 1}, [3]int{5, 0, 0})},
		{of([3]int{9, 0, 0}, [3]int{5, 0, 1}, [3]int{5, 0, 0}, [3]int{5, 0, 0}), 3, of([3]int{9, 0, 0}, [3]int{10, 0, 1}, [3]int{5, 0, 0})},
		// Only ice tells which pair, and each joining counts for the next one.
		{of([3]int{20, 1, 0}, [3]int{20, 1, 0}, [3]int{41, 0, 0}), 2, of([3]int{40, 2, 0}, [3]int{41, 0, 0})},
		{of([3]int{9, 0, 0}, [3]int{2, 0, 0}, [3]int{8, 0, 0}, [3]int{3, 0, 0}, [3]int{9, 0, 0}), 4, of([3]int{9, 0, 0}, [3]int{10, 0, 0}, [3]int{3, 0, 0}, [3]int{9, 0, 0})},
		{of([3]int{5, 0, 0}, [3]int{5, 0, 0}, [3]int{2, 0, 0}, [3]int{9, 0, 0}), 3, of([3]int{5, 0, 0}, [3]int{7, 0, 0}, [3]int{9, 0, 0})},
		{of([3]int{3, 0, 0}, [3]int{4, 0, 0}, [3]int{5, 0, 0}, [3]int{6, 0, 0}), 2, of([3]int{7, 0, 0}, [3]int{11, 0, 0})},
		{of([3]int{60, 3, 0}, [3]int{1, 0, 3}), 1, of([3]int{64, 0, 0})}, {of([3]int{1, 0, 2}, [3]int{60, 3, 0}), 1, of([3]int{63, 1, 0})},
		{high(64, 1), 1, of([3]int{64, 0, 0})}, {high(64, 1), 64, high(64, 1)}, {high(64, 1), 32, high(32, 2)}, {high(64, 1024), 63, of(append([][3]int{{2048, 0, 0}}, toArrays(high(62, 1024))...)...)},
	} {
		if q, e := pack.Joined(x.p, x.n); !same(q, x.want) || e != api.OK {
			t.Error(i, q, e)
		}
	}
	for _, n := range []int{0, -1, 65, math.MinInt, math.MaxInt} {
		for _, p := range []api.Pack{{}, three} {
			if q, e := pack.Joined(p, n); len(q.Layers) != 0 || e != api.ErrArg {
				t.Error(n, q, e)
			}
		}
	}
}

// toArrays returns the layers of p as of takes them.
func toArrays(p api.Pack) [][3]int {
	var l [][3]int
	for _, x := range p.Layers {
		l = append(l, [3]int{x.Ice, x.Wet, x.Cold})
	}
	return l
}

// joinedAt returns p with the layer i and the one below it joined, as the chapter tells it.
func joinedAt(p api.Pack, i int) api.Pack {
	l := toArrays(p)
	x, y := l[i], l[i+1]
	both := [3]int{x[0] + y[0], x[1] + y[1], x[2] + y[2]}
	for both[1] > 0 && both[2] > 0 {
		both[0]++
		both[1]--
		both[2]--
	}
	return of(append(append(l[:i:i], both), l[i+2:]...)...)
}

// P2.5: one layer less is the joining of those two that are thinnest together, of several the uppermost.
func TestJoinedOnce(t *testing.T) {
	eachRandom(func(r *rand.Rand, p api.Pack) {
		n := len(p.Layers)
		if n < 2 {
			return
		}
		at := 0
		for i := n - 2; i >= 0; i-- {
			if p.Layers[i].Ice+p.Layers[i+1].Ice <= p.Layers[at].Ice+p.Layers[at+1].Ice {
				at = i
			}
		}
		if q, want := joined(t, p, n-1), joinedAt(p, at); !same(q, want) {
			t.Fatal(p, q, want)
		}
	})
}

// P2.5
func TestDrift(t *testing.T) {
	one := of([3]int{90, 0, 4})
	for i, x := range []struct {
		p, q         api.Pack
		much         int
		wantP, wantQ api.Pack
	}{
		{a(), api.Pack{}, 1, of([3]int{39, 1, 0}, [3]int{101, 0, 4}), of([3]int{1, 0, 0})}, {a(), one, 0, a(), one}, {api.Pack{}, one, 9, api.Pack{}, one},
		{of([3]int{5, 0, 2}), one, 4, of([3]int{1, 0, 2}), of([3]int{4, 0, 0}, [3]int{90, 0, 4})},
		// The wind takes no more than there is, but what froze meanwhile as well.
		{of([3]int{5, 0, 2}), one, 9, api.Pack{}, of([3]int{5, 0, 0}, [3]int{90, 0, 4})}, {a(), one, 65536, api.Pack{}, of([3]int{142, 0, 0}, [3]int{90, 0, 4})},
		{of([3]int{40, 2, 0}), api.Pack{}, 65536, api.Pack{}, of([3]int{40, 0, 0})},
		{one, high(64, 1), 0, one, high(64, 1)}, {api.Pack{}, high(64, 1), 9, api.Pack{}, high(64, 1)},
		{of([3]int{65536, 0, 0}), api.Pack{}, 65536, api.Pack{}, of([3]int{65536, 0, 0})}, {of([3]int{6, 0, 0}), of([3]int{65530, 0, 0}), 7, api.Pack{}, of([3]int{6, 0, 0}, [3]int{65530, 0, 0})},
	} {
		if p, q, e := pack.Drift(x.p, x.q, x.much); !same(p, x.wantP) || !same(q, x.wantQ) || e != api.OK {
			t.Error(i, p, q, e)
		}
	}
}

// P2.5
func TestDriftErrors(t *testing.T) {
	for i, x := range []struct {
		p, q api.Pack
		much int
		e    api.Errno
	}{
		{a(), a(), -1, api.ErrArg}, {a(), a(), 65537, api.ErrArg}, {a(), high(64, 1), math.MinInt, api.ErrArg}, {api.Pack{}, api.Pack{}, math.MaxInt, api.ErrArg},
		{a(), high(64, 1), 1, api.ErrLimit}, {a(), of([3]int{65536, 0, 0}), 1, api.ErrLimit}, {of([3]int{7, 0, 0}), of([3]int{65530, 0, 0}), 7, api.ErrLimit},
	} {
		if p, q, e := pack.Drift(x.p, x.q, x.much); len(p.Layers)+len(q.Layers) != 0 || e != x.e {
			t.Error(i, p, q, e)
		}
	}
}

// tiny returns all packs of at most two layers with at most 21 of ice, of which some are valid with liquid water.
func tiny() []api.Pack {
	var layers [][3]int
	for _, ice := range []int{19, 20, 21} {
		layers = append(layers, [3]int{ice, 0, 0}, [3]int{ice, 0, 1})
		if ice >= 20 {
			layers = append(layers, [3]int{ice, 1, 0})
		}
	}
	packs := []api.Pack{{}}
	for _, x := range layers {
		packs = append(packs, of(x))
		for _, y := range layers {
			packs = append(packs, of(x, y))
		}
	}
	return packs
}

// P2.12: Less is an order, and more of it is more of all.
func TestOrder(t *testing.T) {
	packs := tiny()
	for _, p := range packs {
		var greater []api.Pack
		for _, q := range packs {
			if less(t, p, q) {
				greater = append(greater, q)
			}
		}
		for _, q := range greater {
			if waterOf(t, p) > waterOf(t, q) || coldOf(t, p) > coldOf(t, q) || less(t, q, p) && !same(p, q) {
				t.Fatal(p, q)
			}
			for _, r := range packs {
				if less(t, q, r) && !less(t, p, r) {
					t.Fatal(p, q, r)
				}
			}
		}
		if !less(t, p, p) {
			t.Fatal(p)
		}
	}
}

// P2.12: with more snow on top, a pack has more.
func TestSnowIsMore(t *testing.T) {
	eachRandom(func(r *rand.Rand, p api.Pack) {
		if len(p.Layers) == api.MaxLayers {
			return
		}
		s := randomStep(r, api.SnowS)
		q, _ := applied(t, p, s)
		if !less(t, p, q) || less(t, q, p) != (s.Much == 0) {
			t.Fatal(p, s, q)
		}
	})
}

func joined(t *testing.T, p api.Pack, n int) api.Pack {
	t.Helper()
	q, e := pack.Joined(p, n)
	if e != api.OK || pack.Check(q) != api.OK {
		t.Fatal(p, n, q, e)
	}
	return q
}

// P2.13: nothing is lost by joining, and it can be done in parts.
func TestJoining(t *testing.T) {
	eachRandom(func(r *rand.Rand, p api.Pack) {
		n := 1 + r.Intn(max(1, len(p.Layers)))
		q := joined(t, p, n)
		if len(q.Layers) != min(n, len(p.Layers)) || waterOf(t, p) != waterOf(t, q) || coldLessWet(p) != coldLessWet(q) {
			t.Fatal(p, n, q)
		}
		fewer := 1 + r.Intn(n)
		if x, y := joined(t, q, fewer), joined(t, p, fewer); !same(x, y) {
			t.Fatal(p, n, fewer, x, y)
		}
	})
}

func coldLessWet(p api.Pack) int {
	sum := 0
	for _, l := range p.Layers {
		sum += l.Cold - l.Wet
	}
	return sum
}

// P2.14: nothing is lost by a drift but what runs out.
func TestDriftLosesNothing(t *testing.T) {
	eachRandom(func(r *rand.Rand, p api.Pack) {
		q := random(r, 5)
		much := r.Intn(500)
		x, y, e := pack.Drift(p, q, much)
		blown, out := applied(t, p, step(api.BlownS, much))
		if e != api.OK || !same(x, blown) || waterOf(t, x)+waterOf(t, y) != waterOf(t, p)+waterOf(t, q)-out {
			t.Fatal(p, q, much, x, y, e)
		}
		w := slowOf(p)
		w.step(step(api.BlownS, much))
		snowed, _ := applied(t, q, step(api.SnowS, w.taken))
		if !same(y, snowed) {
			t.Fatal(p, q, much, y, snowed)
		}
	})
}
