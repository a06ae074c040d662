package share

import (
	"slices"

	"snowline/api"
)

// Plan returns draws that take so much, and whether there are such.
func Plan(s api.Share, volumes []int) ([]api.Draw, bool, api.Errno) {
	if e := checkVolumes(s, volumes); e != api.OK {
		return nil, false, e
	}
	w, _, all := take(s, volumes)
	if !all {
		return nil, false, api.OK
	}
	return w.draws(s), true, api.OK
}

// CheckPlan returns ErrPlan unless draws take no more than comes, and for each right its volume.
func CheckPlan(s api.Share, volumes []int, l []api.Draw) api.Errno {
	if e := checkVolumes(s, volumes); e != api.OK {
		return e
	}
	p, is := newPlan(s, l)
	if !is || !p.arePossible(s) || !slices.Equal(p.ofRights(s), volumes) {
		return api.ErrPlan
	}
	return api.OK
}

// plan is how much each right draws, by the indices of the right and of the supply.
type plan [api.MaxRights][api.MaxSupply]int

// newPlan returns the plan of draws, and whether each of them is one that a right of s may take, and only once.
func newPlan(s api.Share, l []api.Draw) (p plan, is bool) {
	for _, x := range l {
		right := slices.IndexFunc(s.Rights, func(y api.Right) bool { return y.No == x.Right })
		if right < 0 {
			return plan{}, false
		}
		at := slices.IndexFunc(s.Supplies, func(y api.Supply) bool { return y.Day == x.Day && mayTake(s.Rights[right], y) })
		// A greater volume than that of any claim is none of a plan, and sums of such could be too great for an int.
		if at < 0 || p[right][at] > 0 || !isIn(x.Volume, 1, api.MaxVolume) {
			return plan{}, false
		}
		p[right][at] = x.Volume
	}
	return p, true
}

// arePossible reports whether as much comes, or was kept, as the draws take in each period.
func (p *plan) arePossible(s api.Share) bool {
	rest := 0
	for at, x := range s.Supplies {
		rest = x.Volume + min(rest, keeps(s, at))
		for right := range s.Rights {
			rest -= p[right][at]
		}
		if rest < 0 {
			return false
		}
	}
	return true
}

// ofRights returns how much each right takes.
func (p *plan) ofRights(s api.Share) []int {
	sums := make([]int, len(s.Rights))
	for right := range s.Rights {
		for at := range s.Supplies {
			sums[right] += p[right][at]
		}
	}
	return sums
}

// draws returns what flows from the supplies to the rights.
func (w *stream) draws(s api.Share) []api.Draw {
	var l []api.Draw
	for at, x := range s.Supplies {
		for _, i := range w.leaving[w.supplyNode(at)] {
			right := w.arcs[i].to - w.rightNode(0)
			// What has flowed along an arc is left on the way back.
			if much := w.arcs[i^1].left; right >= 0 && much > 0 {
				l = append(l, api.Draw{Right: s.Rights[right].No, Day: x.Day, Volume: much})
			}
		}
	}
	return l
}
