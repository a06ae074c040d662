package pack

import "snowline/api"

// column is a pack while a step is done. Its layers stand at the end of an array, so that there is room for snow on top of them.
type column struct {
	layers [api.MaxLayers]api.Layer
	top    int // the place of the top layer; behind the array if there are no layers
}

// stand returns the column of a valid pack.
func stand(p api.Pack) *column {
	c := &column{top: api.MaxLayers - len(p.Layers)}
	copy(c.layers[c.top:], p.Layers)
	return c
}

func (c *column) pack() api.Pack {
	return api.Pack{Layers: append([]api.Layer(nil), c.layers[c.top:]...)}
}

func (c *column) empty() bool { return c.top == len(c.layers) }

// each hands the layers from a place on to do, from above to below.
func (c *column) each(from int, do func(l *api.Layer)) {
	for i := from; i < len(c.layers); i++ {
		do(&c.layers[i])
	}
}

// flow is water on its way down.
type flow struct{ left int }

func (f *flow) enter(l *api.Layer) {
	freezes := min(f.left, l.Cold)
	l.Ice += freezes
	l.Cold -= freezes
	f.left -= freezes
	stays := min(f.left, hold(l.Ice)-l.Wet)
	l.Wet += stays
	f.left -= stays
}

// frost is cold on its way down.
type frost struct{ left int }

func (f *frost) enter(l *api.Layer) {
	freezes := min(f.left, l.Wet)
	l.Wet -= freezes
	l.Ice += freezes
	f.left -= freezes
}

// step does a valid step and returns how much runs out.
func (c *column) step(s api.Step) (int, api.Errno) {
	switch s.Kind {
	case api.SnowS:
		return 0, c.snow(s.Much, s.Cold)
	case api.RainS:
		return c.pour(c.top, s.Much), api.OK
	case api.MeltS:
		return c.melt(s.Much), api.OK
	case api.FrostS:
		c.freeze(s.Much)
		return 0, api.OK
	default:
		// To the pack it is the same whether the air or the wind takes the snow.
		_, out := c.take(s.Much)
		return out, api.OK
	}
}

func (c *column) snow(much, cold int) api.Errno {
	if much == 0 {
		return api.OK
	}
	if c.top == 0 {
		return api.ErrLimit
	}
	c.top--
	c.layers[c.top] = api.Layer{Ice: much, Cold: cold}
	return api.OK
}

// pour lets water flow into the layers from a place on, and returns what runs out.
func (c *column) pour(from, much int) int {
	f := flow{left: much}
	c.each(from, f.enter)
	return f.left
}

func (c *column) freeze(much int) {
	f := frost{left: much}
	c.each(c.top, f.enter)
	if !c.empty() {
		c.layers[c.top].Cold += f.left
	}
}

// melt returns what runs out with a melting of so much.
func (c *column) melt(much int) int {
	out := 0
	for much > 0 && !c.empty() {
		l := &c.layers[c.top]
		warms := min(much, l.Cold)
		l.Cold -= warms
		much -= warms
		melts := min(much, l.Ice)
		much -= melts
		out += c.lose(melts, melts)
	}
	return out
}

// take takes so much ice, or all that is left, from the top on, and returns how much that is and what runs out.
func (c *column) take(much int) (int, int) {
	taken, out := 0, 0
	for taken < much && !c.empty() {
		part := min(much-taken, c.layers[c.top].Ice)
		taken += part
		out += c.lose(part, 0)
	}
	return taken, out
}

// lose takes ice off the top layer, adds to its liquid water, and returns what runs out.
// It is the same as one millimetre after the other: the layer can hold ever less, and water that flows in parts ends where it does at once.
func (c *column) lose(ice, wet int) int {
	l := &c.layers[c.top]
	l.Ice -= ice
	l.Wet += wet
	flows := max(0, l.Wet-hold(l.Ice))
	l.Wet -= flows
	below := c.top + 1
	if l.Ice == 0 {
		c.top = below
	}
	return c.pour(below, flows)
}
