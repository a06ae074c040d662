package pack

import (
	"slices"

	"snowline/api"
)

// Less reports whether p lies within q: whether, counted from the bottom, each layer of p has no more of anything than that of q.
func Less(p, q api.Pack) (bool, api.Errno) {
	if e := checkBoth(p, q); e != api.OK {
		return false, e
	}
	higher := len(q.Layers) - len(p.Layers)
	if higher < 0 {
		return false, api.OK
	}
	for i, l := range p.Layers {
		m := q.Layers[higher+i]
		if l.Ice > m.Ice || l.Wet > m.Wet || l.Cold > m.Cold {
			return false, api.OK
		}
	}
	return true, api.OK
}

// Joined returns p with neighbouring layers joined until there are at most n.
func Joined(p api.Pack, n int) (api.Pack, api.Errno) {
	if e := Check(p); e != api.OK {
		return api.Pack{}, e
	}
	if n < 1 || n > api.MaxLayers {
		return api.Pack{}, api.ErrArg
	}
	l := append([]api.Layer(nil), p.Layers...)
	for len(l) > n {
		i := thinnest(l)
		l[i] = join(l[i], l[i+1])
		l = slices.Delete(l, i+1, i+2)
	}
	return api.Pack{Layers: l}, api.OK
}

// thinnest returns the index of the upper one of the two neighbouring layers whose ice together is least.
func thinnest(l []api.Layer) int {
	least := 0
	for i := range len(l) - 1 {
		if l[i].Ice+l[i+1].Ice < l[least].Ice+l[least+1].Ice {
			least = i
		}
	}
	return least
}

func join(a, b api.Layer) api.Layer {
	l := api.Layer{Ice: a.Ice + b.Ice, Wet: a.Wet + b.Wet, Cold: a.Cold + b.Cold}
	freezes := min(l.Wet, l.Cold)
	l.Wet -= freezes
	l.Cold -= freezes
	l.Ice += freezes
	return l
}

// Drift returns both packs after so much snow has been blown from the top of p onto q.
func Drift(p, q api.Pack, much int) (api.Pack, api.Pack, api.Errno) {
	if e := checkBoth(p, q); e != api.OK {
		return api.Pack{}, api.Pack{}, e
	}
	if !isAmount(much) {
		return api.Pack{}, api.Pack{}, api.ErrArg
	}
	c := stand(p)
	taken, _ := c.take(much)
	// Only the snow can make a pack invalid: what is left of p has no more of anything in all.
	onto, _, e := Apply(q, api.Step{Kind: api.SnowS, Much: taken})
	if e != api.OK {
		return api.Pack{}, api.Pack{}, e
	}
	return c.pack(), onto, api.OK
}

func checkBoth(p, q api.Pack) api.Errno {
	if e := Check(p); e != api.OK {
		return e
	}
	return Check(q)
}
