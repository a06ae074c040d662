package pack

import "snowline/api"

// maxSteep is the greatest steepness that is asked for, in degrees.
const maxSteep = 60

// burden is what lies on a layer, and its strength.
type burden struct{ load, strength int }

// Weakest returns the layer that is weakest under its load, and its load.
func Weakest(p api.Pack) (int, int, api.Errno) {
	if e := Check(p); e != api.OK {
		return 0, 0, e
	}
	l := burdens(p)
	if len(l) == 0 {
		return 0, 0, api.ErrNone
	}
	weakest := 0
	for i, b := range l {
		if b.weaker(l[weakest]) {
			weakest = i
		}
	}
	return weakest, l[weakest].load, api.OK
}

// Breaks reports whether p breaks on a slope of a steepness.
func Breaks(p api.Pack, steep int) (bool, api.Errno) {
	if e := Check(p); e != api.OK {
		return false, e
	}
	if steep < 0 || steep > maxSteep {
		return false, api.ErrArg
	}
	for _, b := range burdens(p) {
		if b.breaks(steep) {
			return true, api.OK
		}
	}
	return false, api.OK
}

// Steepest returns the greatest steepness on which p does not break.
func Steepest(p api.Pack) (int, api.Errno) {
	if e := Check(p); e != api.OK {
		return 0, e
	}
	l := burdens(p)
	steep := 0
search:
	for steep < maxSteep {
		for _, b := range l {
			if b.breaks(steep + 1) {
				break search
			}
		}
		steep++
	}
	return steep, api.OK
}

// burdens returns those of the layers of a valid pack.
func burdens(p api.Pack) []burden {
	l := make([]burden, len(p.Layers))
	load := 0
	for i, x := range p.Layers {
		l[i] = burden{load: load, strength: 10*x.Ice + x.Cold - 40*x.Wet}
		load += x.Ice + x.Wet
	}
	return l
}

// weaker reports whether load divided by strength is greater for b than for other. The strength of a valid layer is greater than 0.
func (b burden) weaker(other burden) bool {
	return b.load*other.strength > other.load*b.strength
}

func (b burden) breaks(steep int) bool { return b.load*(steep-25) > 3*b.strength }
