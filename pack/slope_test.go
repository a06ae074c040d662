package pack_test

import (
	"math"
	"math/rand"
	"testing"

	"snowline/api"
	"snowline/pack"
)

// slab is the pack of the chapter's example of slopes.
func slab() api.Pack { return of([3]int{300, 0, 0}, [3]int{20, 0, 0}) }

// P2.4
func TestWeakest(t *testing.T) {
	for i, x := range []struct {
		p        api.Pack
		at, load int
	}{
		{a(), 1, 42}, {slab(), 1, 300}, {of([3]int{5, 0, 0}), 0, 0},
		{of([3]int{10, 0, 0}, [3]int{10, 0, 0}, [3]int{21, 0, 0}), 1, 10}, {of([3]int{10, 0, 0}, [3]int{10, 0, 0}, [3]int{19, 0, 0}), 2, 20},
		// Of equal ones the uppermost.
		{of([3]int{10, 0, 0}, [3]int{10, 0, 0}, [3]int{20, 0, 0}, [3]int{40, 0, 0}), 1, 10},
		// Liquid water weakens, cold strengthens.
		{of([3]int{20, 0, 0}, [3]int{40, 0, 0}, [3]int{120, 1, 0}), 2, 60}, {of([3]int{20, 0, 0}, [3]int{40, 0, 0}, [3]int{119, 0, 10}), 1, 20}, {of([3]int{20, 0, 0}, [3]int{40, 0, 0}, [3]int{119, 0, 9}), 2, 60},
		{of([3]int{32768, 0, 0}, [3]int{32767, 0, 0}, [3]int{1, 0, 65536}), 2, 65535},
	} {
		if at, load, e := pack.Weakest(x.p); at != x.at || load != x.load || e != api.OK {
			t.Error(i, at, load, e)
		}
	}
	if at, load, e := pack.Weakest(api.Pack{}); at != 0 || load != 0 || e != api.ErrNone {
		t.Error(at, load, e)
	}
}

// P2.4
func TestBreaks(t *testing.T) {
	for i, x := range []struct {
		p     api.Pack
		steep int
		want  bool
	}{
		{slab(), 0, false}, {slab(), 25, false}, {slab(), 26, false}, {slab(), 27, false}, {slab(), 28, true}, {slab(), 60, true}, {api.Pack{}, 60, false},
		// 100 times 3 is not greater than 3 times 100.
		{of([3]int{100, 0, 0}, [3]int{10, 0, 0}), 28, false}, {of([3]int{101, 0, 0}, [3]int{10, 0, 0}), 28, true},
		{of([3]int{101, 0, 0}, [3]int{10, 0, 1}), 28, false}, {of([3]int{200, 0, 0}, [3]int{20, 1, 0}, [3]int{9999, 0, 0}), 28, true},
		{of([3]int{160, 0, 0}, [3]int{20, 0, 0}), 28, false}, {of([3]int{161, 0, 0}, [3]int{20, 1, 0}), 28, true}, {of([3]int{160, 0, 0}, [3]int{20, 1, 0}), 28, false},
		{of([3]int{5, 0, 0}), 60, false},
	} {
		if is, e := pack.Breaks(x.p, x.steep); is != x.want || e != api.OK {
			t.Error(i, is, e)
		}
	}
	for _, steep := range []int{-1, 61, math.MinInt, math.MaxInt} {
		for _, p := range []api.Pack{{}, slab()} {
			if is, e := pack.Breaks(p, steep); is || e != api.ErrArg {
				t.Error(steep, is, e)
			}
		}
	}
}

// P2.4
func TestSteepest(t *testing.T) {
	for i, x := range []struct {
		p    api.Pack
		want int
	}{
		{slab(), 27}, {api.Pack{}, 60}, {of([3]int{5, 0, 0}), 60}, {of([3]int{300, 0, 0}, [3]int{20, 1, 0}), 26}, {of([3]int{300, 0, 0}, [3]int{20, 0, 100}), 28},
		{of([3]int{65535, 0, 0}, [3]int{1, 0, 0}), 25}, {of([3]int{60, 0, 0}, [3]int{70, 0, 0}), 60}, {of([3]int{60, 0, 0}, [3]int{69, 0, 0}), 59},
	} {
		if n, e := pack.Steepest(x.p); n != x.want || e != api.OK {
			t.Error(i, n, e)
		}
	}
}

// strengthOf is the strength of a layer.
func strengthOf(l api.Layer) int { return 10*l.Ice + l.Cold - 40*l.Wet }

// P2.4 and P2.11: the weakest layer is one that no other one exceeds, none above it reaches it, and it tells for all.
func TestWeakestTells(t *testing.T) {
	eachRandom(func(r *rand.Rand, p api.Pack) {
		if len(p.Layers) == 0 {
			return
		}
		at, load, e := pack.Weakest(p)
		if e != api.OK {
			t.Fatal(p, e)
		}
		strength := strengthOf(p.Layers[at])
		above := 0
		for i, l := range p.Layers {
			if s := strengthOf(l); s <= 0 || above*strength > load*s || i < at && above*strength == load*s || i == at && above != load {
				t.Fatal(p, at, load, i)
			}
			above += l.Ice + l.Wet
		}
		for steep := range 61 {
			if is, e := pack.Breaks(p, steep); is != (load*(steep-25) > 3*strength) || e != api.OK {
				t.Fatal(p, steep, is, e)
			}
		}
	})
}

// P2.11: what breaks on a slope breaks on each steeper one, and nothing breaks on 25 degrees.
func TestSteeperBreaks(t *testing.T) {
	eachRandom(func(r *rand.Rand, p api.Pack) {
		steepest, e := pack.Steepest(p)
		if e != api.OK || steepest < 25 {
			t.Fatal(p, steepest, e)
		}
		for steep := range 61 {
			if is, e := pack.Breaks(p, steep); is != (steep > steepest) || e != api.OK {
				t.Fatal(p, steepest, steep, is, e)
			}
		}
	})
}
