package pillow

import (
	"slices"

	"snowline/api"
)

// gauge is a valid pillow, with what its log tells of states and loads.
type gauge struct{ api.Pillow }

// place is where a case has come to: an entry, its state, and how many of the entries behind it can still be faults.
type place struct{ entry, state, faults int }

// start returns the place ahead of the first entry.
func (g gauge) start() place { return place{entry: -1, faults: g.Faults} }

func (g gauge) has(entry int) bool { return 0 <= entry && entry < len(g.Log) }

func (g gauge) isLast(entry int) bool { return entry == len(g.Log)-1 }

// shift reports whether the state can change between an entry and the next one. A pillow that shows the same twice may be stuck.
func (g gauge) shift(entry int) bool {
	more := g.Log[entry+1].Weight - g.Log[entry].Weight
	return more == 0 || more > g.Jump || -more > g.Jump
}

// states returns the states that the entry behind a place can have, whatever the number of faults.
func (g gauge) states(p place) []int {
	switch {
	case p.entry < 0:
		return []int{api.GoodP, api.BridgeP}
	case g.shift(p.entry):
		return []int{api.GoodP, api.BridgeP, api.FaultP}
	default:
		return []int{p.state}
	}
}

// next returns the places at the next entry to which a case can come from p, in the order of their states.
func (g gauge) next(p place) []place {
	var l []place
	for _, state := range g.states(p) {
		q := place{entry: p.entry + 1, state: state, faults: p.faults}
		if state == api.FaultP {
			q.faults--
		}
		if q.faults >= 0 {
			l = append(l, q)
		}
	}
	return l
}

// hasCase reports whether l is a valid case.
func (g gauge) hasCase(l []int) bool {
	if len(l) != len(g.Log) {
		return false
	}
	p := g.start()
	for _, state := range l {
		next := g.next(p)
		i := slices.IndexFunc(next, func(q place) bool { return q.state == state })
		if i < 0 {
			return false
		}
		p = next[i]
	}
	return true
}

// allowed returns the loads that an entry allows in a state, if nothing else is known.
func (g gauge) allowed(entry, state int) api.Span {
	whole := api.Span{Lo: 0, Hi: api.MaxWater}
	if state == api.FaultP {
		return whole
	}
	weight := g.Log[entry].Weight
	s := api.Span{Lo: weight - g.Noise, Hi: weight + g.Noise}
	if state == api.BridgeP {
		s.Hi += g.Slab
	}
	return meet(s, whole)
}
