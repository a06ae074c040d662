package pack_test

import (
	"math/rand"
	"slices"
	"testing"

	"snowline/api"
	"snowline/pack"
)

// P2.2
func TestApply(t *testing.T) {
	for i, x := range []struct {
		p    api.Pack
		s    api.Step
		want api.Pack
		out  int
	}{
		// The chapter's examples.
		{a(), step(api.RainS, 12), of([3]int{40, 2, 0}, [3]int{105, 5, 0}), 2},
		{a(), step(api.MeltS, 21), of([3]int{19, 0, 0}, [3]int{105, 5, 0}), 13},
		{a(), step(api.FrostS, 5), of([3]int{42, 0, 3}, [3]int{100, 0, 5}), 0},
		{a(), step(api.LossS, 50), of([3]int{92, 0, 3}), 0},
		{of([3]int{60, 3, 0}), step(api.MeltS, 1), of([3]int{59, 2, 0}), 2},
		// Snow.
		{api.Pack{}, api.Step{Kind: api.SnowS, Much: 7, Cold: 9}, of([3]int{7, 0, 9}), 0},
		{a(), api.Step{Kind: api.SnowS, Much: 40, Cold: 0}, of([3]int{40, 0, 0}, [3]int{40, 2, 0}, [3]int{100, 0, 5}), 0},
		{a(), api.Step{Kind: api.SnowS, Much: 0, Cold: 9}, a(), 0}, {high(64, 1), api.Step{Kind: api.SnowS, Much: 0, Cold: 9}, high(64, 1), 0},
		{api.Pack{}, api.Step{Kind: api.SnowS, Much: 65536, Cold: 65536}, of([3]int{65536, 0, 65536}), 0},
		{high(63, 1), step(api.SnowS, 1), high(64, 1), 0},
		// Rain.
		{api.Pack{}, step(api.RainS, 65536), api.Pack{}, 65536}, {a(), step(api.RainS, 0), a(), 0},
		{of([3]int{18, 0, 3}), step(api.RainS, 3), of([3]int{21, 0, 0}), 0}, {of([3]int{18, 0, 3}), step(api.RainS, 5), of([3]int{21, 1, 0}), 1},
		{of([3]int{65536, 0, 0}), step(api.RainS, 0), of([3]int{65536, 0, 0}), 0}, {high(64, 19), step(api.RainS, 9), high(64, 19), 9},
		// Melting: cold first, then ice.
		{of([3]int{10, 0, 4}), step(api.MeltS, 3), of([3]int{10, 0, 1}), 0}, {of([3]int{10, 0, 4}), step(api.MeltS, 5), of([3]int{9, 0, 0}), 1},
		{of([3]int{10, 0, 4}), step(api.MeltS, 14), api.Pack{}, 10}, {of([3]int{10, 0, 4}), step(api.MeltS, 65536), api.Pack{}, 10},
		{of([3]int{2, 0, 0}, [3]int{5, 0, 1}), step(api.MeltS, 2), of([3]int{6, 0, 0}), 1},
		{of([3]int{2, 0, 0}, [3]int{5, 0, 9}), step(api.MeltS, 4), of([3]int{7, 0, 5}), 0},
		{of([3]int{200, 0, 0}), step(api.MeltS, 9), of([3]int{191, 9, 0}), 0}, {of([3]int{200, 0, 0}), step(api.MeltS, 10), of([3]int{190, 9, 0}), 1},
		{api.Pack{}, step(api.MeltS, 9), api.Pack{}, 0}, {a(), step(api.MeltS, 0), a(), 0},
		// Frost.
		{of([3]int{40, 2, 0}, [3]int{100, 5, 0}), step(api.FrostS, 1), of([3]int{41, 1, 0}, [3]int{100, 5, 0}), 0},
		{of([3]int{40, 2, 0}, [3]int{100, 5, 0}), step(api.FrostS, 4), of([3]int{42, 0, 0}, [3]int{102, 3, 0}), 0},
		{of([3]int{40, 2, 0}, [3]int{100, 5, 0}), step(api.FrostS, 9), of([3]int{42, 0, 2}, [3]int{105, 0, 0}), 0},
		{of([3]int{40, 0, 2}, [3]int{100, 5, 0}), step(api.FrostS, 6), of([3]int{40, 0, 3}, [3]int{105, 0, 0}), 0},
		{api.Pack{}, step(api.FrostS, 65536), api.Pack{}, 0}, {of([3]int{1, 0, 0}), step(api.FrostS, 65536), of([3]int{1, 0, 65536}), 0},
		// Losses: the cold of a layer that vanishes does so with it.
		{a(), step(api.LossS, 1), of([3]int{39, 1, 0}, [3]int{101, 0, 4}), 0}, {a(), step(api.LossS, 40), of([3]int{102, 0, 3}), 0},
		{of([3]int{3, 0, 9}, [3]int{5, 0, 1}), step(api.LossS, 3), of([3]int{5, 0, 1}), 0}, {of([3]int{3, 0, 9}), step(api.BlownS, 2), of([3]int{1, 0, 9}), 0},
		{of([3]int{40, 2, 0}), step(api.BlownS, 21), of([3]int{19, 0, 0}), 2}, {of([3]int{40, 2, 0}), step(api.LossS, 41), api.Pack{}, 2},
		{api.Pack{}, step(api.LossS, 3), api.Pack{}, 0}, {high(64, 1), step(api.BlownS, 64), api.Pack{}, 0},
	} {
		if q, out, e := pack.Apply(x.p, x.s); !same(q, x.want) || out != x.out || e != api.OK {
			t.Error(i, q, out, e)
		}
	}
}

// P2.2: each step as the chapter tells it, a millimetre at a time.
func TestApplySlowly(t *testing.T) {
	eachRandom(func(r *rand.Rand, p api.Pack) {
		if len(p.Layers) == api.MaxLayers {
			p.Layers = p.Layers[1:]
		}
		s := randomStep(r, allKinds()...)
		w := slowOf(p)
		w.step(s)
		if q, out, e := pack.Apply(p, s); !slices.Equal(q.Layers, w.layers) || out != w.out || e != api.OK {
			t.Fatal(p, s, q, out, e, w)
		}
	})
}

// P2.2
func TestApplyErrors(t *testing.T) {
	full := of([3]int{65530, 0, 0})
	cold := of([3]int{5, 0, 65530})
	for i, x := range []struct {
		p api.Pack
		s api.Step
		e api.Errno
	}{
		{a(), api.Step{}, api.ErrStep}, {a(), step(7, 0), api.ErrStep}, {a(), step(api.RainS, -1), api.ErrStep}, {a(), api.Step{Kind: api.MeltS, Cold: 1}, api.ErrStep},
		{high(64, 1), step(api.SnowS, 65537), api.ErrStep}, {high(64, 1), step(api.SnowS, 1), api.ErrLimit}, {high(64, 1024), step(api.SnowS, 65536), api.ErrLimit},
		{full, step(api.SnowS, 6), api.OK}, {full, step(api.SnowS, 7), api.ErrLimit}, {full, step(api.RainS, 6), api.OK}, {full, step(api.RainS, 7), api.ErrLimit},
		{full, step(api.MeltS, 65536), api.OK}, {full, step(api.FrostS, 65536), api.OK}, {full, api.Step{Kind: api.SnowS, Much: 1, Cold: 65536}, api.OK},
		{cold, step(api.FrostS, 6), api.OK}, {cold, step(api.FrostS, 7), api.ErrLimit}, {cold, step(api.RainS, 65531), api.OK}, {cold, step(api.RainS, 65532), api.ErrLimit},
		{cold, api.Step{Kind: api.SnowS, Much: 1, Cold: 6}, api.OK}, {cold, api.Step{Kind: api.SnowS, Much: 1, Cold: 7}, api.ErrLimit},
		// What runs out does not count.
		{of([3]int{1, 0, 0}), step(api.RainS, 65536), api.OK},
	} {
		q, out, e := pack.Apply(x.p, x.s)
		if e != x.e || e != api.OK && (len(q.Layers) != 0 || out != 0) {
			t.Error(i, q, out, e)
		}
	}
}

// P2.2
func TestRun(t *testing.T) {
	q, outs, e := pack.Run(a(), []api.Step{step(api.RainS, 12), step(api.RainS, 4), step(api.FrostS, 1), step(api.MeltS, 0)})
	if !same(q, of([3]int{41, 1, 0}, [3]int{105, 5, 0})) || !slices.Equal(outs, []int{2, 4, 0, 0}) || e != api.OK {
		t.Error(q, outs, e)
	}
	q, outs, e = pack.Run(a(), nil)
	if !same(q, a()) || len(outs) != 0 || e != api.OK {
		t.Error(q, outs, e)
	}
	q, outs, e = pack.Run(api.Pack{}, slices.Repeat([]api.Step{step(api.RainS, 1)}, api.MaxSteps))
	if len(q.Layers) != 0 || !slices.Equal(outs, slices.Repeat([]int{1}, api.MaxSteps)) || e != api.OK {
		t.Error(q, outs, e)
	}
}

// P2.2: the errors of a run; the first step that fails tells.
func TestRunErrors(t *testing.T) {
	snow, bad := step(api.SnowS, 1), step(api.RainS, -1)
	for i, x := range []struct {
		p api.Pack
		l []api.Step
		e api.Errno
	}{
		{a(), make([]api.Step, api.MaxSteps+1), api.ErrLimit}, {a(), make([]api.Step, api.MaxSteps), api.ErrStep},
		{high(63, 1), []api.Step{snow, snow, bad}, api.ErrLimit}, {high(63, 1), []api.Step{snow, bad, snow}, api.ErrStep}, {high(63, 1), []api.Step{snow}, api.OK},
		{high(64, 1), []api.Step{step(api.LossS, 1), snow}, api.OK}, {of([3]int{65536, 0, 0}), []api.Step{snow, step(api.MeltS, 9)}, api.ErrLimit},
	} {
		q, outs, e := pack.Run(x.p, x.l)
		if e != x.e || e != api.OK && len(q.Layers)+len(outs) != 0 {
			t.Error(i, q, outs, e)
		}
	}
}

// P2.7: nothing is lost.
func TestNothingIsLost(t *testing.T) {
	eachRandom(func(r *rand.Rand, p api.Pack) {
		if len(p.Layers) == api.MaxLayers {
			p.Layers = p.Layers[1:]
		}
		for _, kind := range allKinds() {
			s := randomStep(r, kind)
			q, out := applied(t, p, s)
			if e := pack.Check(q); e != api.OK || out < 0 {
				t.Fatal(p, s, q, out, e)
			}
			w := slowOf(p)
			w.step(s)
			if w.taken > s.Much || w.taken < s.Much && s.Kind >= api.LossS && len(q.Layers) > 0 {
				t.Fatal(p, s, q, w.taken)
			}
			more := map[int]int{api.SnowS: s.Much, api.RainS: s.Much - out, api.MeltS: -out, api.LossS: -out - w.taken, api.BlownS: -out - w.taken}[kind]
			if waterOf(t, q)-waterOf(t, p) != more || out != 0 && (kind == api.SnowS || kind == api.FrostS) {
				t.Fatal(p, s, q, out)
			}
		}
	})
}

// P2.7: the same for the greatest packs and steps.
func TestNothingIsLostOfMuch(t *testing.T) {
	for i, p := range []api.Pack{
		of([3]int{65536, 0, 0}), of([3]int{62416, 3120, 0}), of([3]int{65536, 0, 65536}), high(64, 1024),
		of([3]int{20, 1, 0}, [3]int{30000, 0, 30000}, [3]int{35000, 500, 0}),
	} {
		for _, kind := range []int{api.MeltS, api.LossS, api.BlownS} {
			for _, much := range []int{1, 1025, 40000, 65535, 65536} {
				w := slowOf(p)
				w.step(step(kind, much))
				q, out := applied(t, p, step(kind, much))
				if !slices.Equal(q.Layers, w.layers) || out != w.out || waterOf(t, p) != waterOf(t, q)+out+w.taken {
					t.Error(i, kind, much, q, out)
				}
			}
		}
	}
}

// P2.8: in two parts as at once.
func TestParts(t *testing.T) {
	eachRandom(func(r *rand.Rand, p api.Pack) {
		for _, kind := range allKinds()[1:] {
			one, two := randomStep(r, kind), randomStep(r, kind)
			q, first := applied(t, p, one)
			q, second := applied(t, q, two)
			x, out := applied(t, p, step(kind, one.Much+two.Much))
			if !same(q, x) || first+second != out {
				t.Fatal(p, one, two, q, x)
			}
		}
	})
}

// P2.15: steps and then further ones as all of them.
func TestRunsOfRuns(t *testing.T) {
	r := rand.New(rand.NewSource(3))
	for range 300 {
		p := random(r, 6)
		var l []api.Step
		for range r.Intn(20) {
			l = append(l, randomStep(r, allKinds()...))
		}
		n := r.Intn(len(l) + 1)
		all, outs, e := pack.Run(p, l)
		q, first, e1 := pack.Run(p, l[:n])
		q, second, e2 := pack.Run(q, l[n:])
		if !same(all, q) || !slices.Equal(outs, append(first, second...)) || e != api.OK || e1 != api.OK || e2 != api.OK {
			t.Fatal(p, l, n, all, q, outs, e, e1, e2)
		}
	}
}
