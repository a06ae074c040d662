package pack

import (
	"sort"

	"snowline/api"
)

// Ready returns how much liquid water p takes from above before anything runs out.
func Ready(p api.Pack) (int, api.Errno) {
	if e := Check(p); e != api.OK {
		return 0, e
	}
	sum := 0
	for _, l := range p.Layers {
		// What freezes in a layer makes it hold more.
		sum += l.Cold + hold(l.Ice+l.Cold) - l.Wet
	}
	return sum, api.OK
}

// Yield returns how much runs out if so much melts.
func Yield(p api.Pack, melt int) (int, api.Errno) {
	if e := Check(p); e != api.OK {
		return 0, e
	}
	if !isAmount(melt) {
		return 0, api.ErrArg
	}
	return stand(p).melt(melt), api.OK
}

// Enough returns the least melt with which at least so much runs out, and whether there is one.
func Enough(p api.Pack, out int) (int, bool, api.Errno) {
	if e := Check(p); e != api.OK {
		return 0, false, e
	}
	if !isAmount(out) {
		return 0, false, api.ErrArg
	}
	// More melting never yields less.
	melt := sort.Search(api.MaxWater+1, func(m int) bool { return stand(p).melt(m) >= out })
	if melt > api.MaxWater {
		return 0, false, api.OK
	}
	return melt, true, api.OK
}
