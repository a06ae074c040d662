package pack_test

import (
	"math"
	"testing"

	"snowline/api"
	"snowline/pack"
)

// P2.1
func TestCheck(t *testing.T) {
	for i, p := range []api.Pack{
		{}, {Layers: []api.Layer{}}, a(), of([3]int{1, 0, 0}), of([3]int{20, 1, 0}), of([3]int{39, 1, 0}), of([3]int{1, 0, 65536}),
		of([3]int{65536, 0, 0}), of([3]int{65535, 0, 0}, [3]int{1, 0, 0}), of([3]int{62416, 3120, 0}), of([3]int{65535, 1, 0}),
		of([3]int{1, 0, 65535}, [3]int{1, 0, 1}), high(64, 1024),
	} {
		if e := pack.Check(p); e != api.OK {
			t.Error(i, e)
		}
	}
	for i, p := range invalid() {
		if e := pack.Check(p); e != api.ErrPack {
			t.Error(i, e)
		}
	}
}

// P2.1
func TestCheckStep(t *testing.T) {
	for i, x := range []struct {
		s api.Step
		e api.Errno
	}{
		{api.Step{Kind: api.SnowS, Much: 65536, Cold: 65536}, api.OK}, {api.Step{Kind: api.SnowS, Cold: 5}, api.OK}, {step(api.RainS, 65536), api.OK},
		{step(api.MeltS, 0), api.OK}, {step(api.FrostS, 1), api.OK}, {step(api.LossS, 1), api.OK}, {step(api.BlownS, 65536), api.OK},
		{api.Step{}, api.ErrStep}, {step(7, 1), api.ErrStep}, {step(-1, 1), api.ErrStep}, {step(math.MinInt, 1), api.ErrStep}, {step(math.MaxInt, 1), api.ErrStep},
		{step(api.SnowS, -1), api.ErrStep}, {step(api.SnowS, 65537), api.ErrStep}, {step(api.LossS, math.MinInt), api.ErrStep}, {step(api.BlownS, math.MaxInt), api.ErrStep},
		{api.Step{Kind: api.SnowS, Cold: -1}, api.ErrStep}, {api.Step{Kind: api.SnowS, Cold: 65537}, api.ErrStep},
		{api.Step{Kind: api.RainS, Cold: 1}, api.ErrStep}, {api.Step{Kind: api.MeltS, Cold: 1}, api.ErrStep}, {api.Step{Kind: api.FrostS, Cold: 1}, api.ErrStep},
		{api.Step{Kind: api.LossS, Cold: 1}, api.ErrStep}, {api.Step{Kind: api.BlownS, Cold: -1}, api.ErrStep},
	} {
		if e := pack.CheckStep(x.s); e != x.e {
			t.Error(i, e)
		}
	}
}

// P2.1
func TestHold(t *testing.T) {
	for ice, want := range map[int]int{1: 0, 19: 0, 20: 1, 39: 1, 40: 2, 59: 2, 65536: 3276} {
		if n, e := pack.Hold(api.Layer{Ice: ice}); n != want || e != api.OK {
			t.Error(ice, n, e)
		}
	}
	if n, e := pack.Hold(api.Layer{Ice: 40, Wet: 2}); n != 2 || e != api.OK {
		t.Error(n, e)
	}
	for i, l := range []api.Layer{{}, {Ice: -20}, {Ice: 65537}, {Ice: 40, Wet: 3}, {Ice: 40, Wet: -1}, {Ice: 40, Wet: 1, Cold: 1}, {Ice: 40, Cold: 65537}, {Ice: math.MinInt}} {
		if n, e := pack.Hold(l); n != 0 || e != api.ErrArg {
			t.Error(i, n, e)
		}
	}
}

// P2.1
func TestSums(t *testing.T) {
	for i, x := range []struct {
		p           api.Pack
		water, cold int
	}{
		{api.Pack{}, 0, 0}, {a(), 142, 5}, {of([3]int{1, 0, 65535}, [3]int{65535, 0, 1}), 65536, 65536}, {high(64, 3), 192, 0},
	} {
		if n, e := pack.Water(x.p); n != x.water || e != api.OK {
			t.Error(i, n, e)
		}
		if n, e := pack.Cold(x.p); n != x.cold || e != api.OK {
			t.Error(i, n, e)
		}
	}
	for i, p := range invalid() {
		if n, e := pack.Water(p); n != 0 || e != api.ErrPack {
			t.Error(i, n, e)
		}
		if n, e := pack.Cold(p); n != 0 || e != api.ErrPack {
			t.Error(i, n, e)
		}
	}
}

// P2.1 to P2.6: an invalid pack counts more than other errors.
func TestPackErrors(t *testing.T) {
	long := make([]api.Step, api.MaxSteps+1)
	for i, p := range invalid() {
		q, n, e1 := pack.Apply(p, api.Step{})
		q2, l, e2 := pack.Run(p, long)
		ready, e3 := pack.Ready(p)
		yield, e4 := pack.Yield(p, -1)
		melt, is, e5 := pack.Enough(p, -1)
		at, load, e6 := pack.Weakest(p)
		breaks, e7 := pack.Breaks(p, -1)
		steep, e8 := pack.Steepest(p)
		q3, e9 := pack.Joined(p, 0)
		text, e10 := pack.Print(p)
		for j, e := range []api.Errno{e1, e2, e3, e4, e5, e6, e7, e8, e9, e10} {
			if e != api.ErrPack {
				t.Error(i, j, e)
			}
		}
		if len(q.Layers)+len(q2.Layers)+len(q3.Layers)+len(l)+len(text) != 0 || is || breaks {
			t.Error(i, q, q2, q3, l, text, is, breaks)
		}
		for j, x := range []int{n, ready, yield, melt, at, load, steep} {
			if x != 0 {
				t.Error(i, j, x)
			}
		}
		for j, both := range [][2]api.Pack{{p, a()}, {a(), p}} {
			if is, e := pack.Less(both[0], both[1]); is || e != api.ErrPack {
				t.Error(i, j, is, e)
			}
			if x, y, e := pack.Drift(both[0], both[1], -1); len(x.Layers)+len(y.Layers) != 0 || e != api.ErrPack {
				t.Error(i, j, x, y, e)
			}
		}
	}
}

// R2: no function changes a pack, and no result shares memory with one.
func TestPacksStay(t *testing.T) {
	// There is room behind the layers, into which an append would write.
	p := api.Pack{Layers: append(make([]api.Layer, 0, 9), a().Layers...)}
	q := api.Pack{Layers: append(make([]api.Layer, 0, 9), a().Layers...)}
	var results []api.Pack
	for _, s := range []api.Step{{Kind: api.SnowS}, {Kind: api.SnowS, Much: 3}, step(api.RainS, 9), step(api.MeltS, 9), step(api.FrostS, 9), step(api.LossS, 45)} {
		x, _, _ := pack.Apply(p, s)
		y, _, _ := pack.Run(p, []api.Step{s, s})
		results = append(results, x, y)
	}
	x, _, _ := pack.Run(p, nil)
	y, _ := pack.Joined(p, 1)
	z, _ := pack.Joined(p, 2)
	v, w, _ := pack.Drift(p, q, 0)
	for _, x := range append(results, x, y, z, v, w) {
		for i := range x.Layers {
			x.Layers[i] = api.Layer{Ice: 7}
		}
		if !same(p, a()) || !same(q, a()) || p.Layers[:3][2] != (api.Layer{}) {
			t.Fatal(p, q)
		}
	}
}
