package pack_test

import (
	"math/rand"
	"slices"
	"testing"

	"snowline/api"
	"snowline/pack"
)

// of returns a pack with the layers {Ice, Wet, Cold}, unchecked.
func of(l ...[3]int) api.Pack {
	var p api.Pack
	for _, x := range l {
		p.Layers = append(p.Layers, api.Layer{Ice: x[0], Wet: x[1], Cold: x[2]})
	}
	return p
}

// a is the pack of the chapter's examples.
func a() api.Pack { return of([3]int{40, 2, 0}, [3]int{100, 0, 5}) }

// high is a pack with n layers of so much ice.
func high(n, ice int) api.Pack { return of(slices.Repeat([][3]int{{ice, 0, 0}}, n)...) }

func same(p, q api.Pack) bool { return slices.Equal(p.Layers, q.Layers) }

func step(kind, much int) api.Step { return api.Step{Kind: kind, Much: much} }

// invalid returns packs that are not valid.
func invalid() []api.Pack {
	return []api.Pack{
		of([3]int{}), of([3]int{-1, 0, 0}), of([3]int{65537, 0, 0}), of([3]int{19, 1, 0}), of([3]int{39, 2, 0}), of([3]int{40, -1, 0}),
		of([3]int{40, 0, -1}), of([3]int{40, 0, 65537}), of([3]int{40, 1, 1}), of([3]int{40, 0, 0}, [3]int{0, 0, 0}),
		of([3]int{65536, 0, 0}, [3]int{1, 0, 0}), of([3]int{65536, 1, 0}), of([3]int{1, 0, 65536}, [3]int{1, 0, 1}), high(65, 1),
		of([3]int{-1 << 63, 0, 0}), of([3]int{1<<63 - 1, 0, 0}), of([3]int{1<<63 - 1, 1 << 55, 0}), of([3]int{1, 0, 1<<63 - 1}, [3]int{1, 0, 1<<63 - 1}), high(9999, 1),
	}
}

// random returns a valid pack with at most n layers.
func random(r *rand.Rand, n int) api.Pack {
	var p api.Pack
	for range r.Intn(n + 1) {
		l := api.Layer{Ice: 1 + r.Intn([]int{3, 30, 200}[r.Intn(3)])}
		switch r.Intn(3) {
		case 0:
			l.Wet = r.Intn(l.Ice/20 + 1)
		case 1:
			l.Cold = r.Intn(40)
		}
		p.Layers = append(p.Layers, l)
	}
	return p
}

// randomStep returns a valid step of one of the kinds.
func randomStep(r *rand.Rand, kinds ...int) api.Step {
	s := api.Step{Kind: kinds[r.Intn(len(kinds))], Much: r.Intn([]int{3, 30, 300}[r.Intn(3)])}
	if s.Kind == api.SnowS {
		s.Cold = r.Intn(20)
	}
	return s
}

// allKinds returns all kinds of steps.
func allKinds() []int {
	return []int{api.SnowS, api.RainS, api.MeltS, api.FrostS, api.LossS, api.BlownS}
}

// eachRandom calls f with some hundred packs.
func eachRandom(f func(r *rand.Rand, p api.Pack)) {
	r := rand.New(rand.NewSource(2))
	for i := range 600 {
		n := 5
		if i%20 == 0 {
			n = 64
		}
		f(r, random(r, n))
	}
}

func waterOf(t *testing.T, p api.Pack) int {
	t.Helper()
	n, e := pack.Water(p)
	if e != api.OK {
		t.Fatal(p, e)
	}
	return n
}

func coldOf(t *testing.T, p api.Pack) int {
	t.Helper()
	n, e := pack.Cold(p)
	if e != api.OK {
		t.Fatal(p, e)
	}
	return n
}

// applied returns what s makes of p, which has to be possible.
func applied(t *testing.T, p api.Pack, s api.Step) (api.Pack, int) {
	t.Helper()
	q, out, e := pack.Apply(p, s)
	if e != api.OK {
		t.Fatal(p, s, e)
	}
	return q, out
}

// slow does steps as the chapter tells them: one millimetre after the other.
type slow struct {
	layers     []api.Layer
	out, taken int
}

func slowOf(p api.Pack) *slow { return &slow{layers: slices.Clone(p.Layers)} }

// flow lets water flow into the layer i, a millimetre at a time.
func (w *slow) flow(i, much int) {
	for range much {
		w.drop(i)
	}
}

func (w *slow) drop(i int) {
	for ; i < len(w.layers); i++ {
		l := &w.layers[i]
		if l.Cold > 0 {
			l.Cold--
			l.Ice++
			return
		}
		if l.Wet < l.Ice/20 {
			l.Wet++
			return
		}
	}
	w.out++
}

// lose lets the top layer lose one, and adds to its liquid water.
func (w *slow) lose(wet int) {
	l := &w.layers[0]
	l.Ice--
	l.Wet += wet
	flows := 0
	for l.Wet > l.Ice/20 {
		l.Wet--
		flows++
	}
	w.flow(1, flows)
	if w.layers[0].Ice == 0 {
		w.layers = w.layers[1:]
	}
}

func (w *slow) melt() {
	if w.layers[0].Cold > 0 {
		w.layers[0].Cold--
		return
	}
	w.lose(1)
}

func (w *slow) freeze() {
	for i := range w.layers {
		if w.layers[i].Wet > 0 {
			w.layers[i].Wet--
			w.layers[i].Ice++
			return
		}
	}
	w.layers[0].Cold++
}

func (w *slow) step(s api.Step) {
	if s.Kind == api.SnowS && s.Much > 0 {
		w.layers = append([]api.Layer{{Ice: s.Much, Cold: s.Cold}}, w.layers...)
	}
	if s.Kind == api.RainS {
		w.flow(0, s.Much)
	}
	for i := 0; s.Kind > api.RainS && i < s.Much && len(w.layers) > 0; i++ {
		switch s.Kind {
		case api.MeltS:
			w.melt()
		case api.FrostS:
			w.freeze()
		default:
			w.lose(0)
			w.taken++
		}
	}
}
