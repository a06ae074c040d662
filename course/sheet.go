package course

import "snowline/api"

// parts is in how many parts a gram is divided, so that the least weight of what fell out of a tube is a whole number of them.
const parts = 20

// CheckSheet returns ErrSheet unless s is valid.
func CheckSheet(s api.Sheet) api.Errno {
	if !isNo(s.No) || !isNo(s.Cell) || !isNo(s.Scale) || !isDay(s.Day) || !isDay(s.Known) || !isDay(s.EmptyDay) {
		return api.ErrSheet
	}
	if s.Mouth < 1 || s.Mouth > api.MaxMouth || !isWeight(s.Empty) {
		return api.ErrSheet
	}
	if len(s.Stakes) < 1 || len(s.Stakes) > api.MaxStakes {
		return api.ErrSheet
	}
	for _, x := range s.Stakes {
		if !validStake(x) {
			return api.ErrSheet
		}
	}
	return api.OK
}

func validStake(x api.Stake) bool {
	if x.Depth < 0 || x.Depth > api.MaxLength || !isWeight(x.Full) || !isWeight(x.Soil) {
		return false
	}
	// The sum of Core and Lost could overflow.
	return 0 <= x.Core && x.Core <= x.Depth && 0 <= x.Lost && x.Lost <= x.Depth-x.Core
}

// Core returns how many grams the core of a stake can have weighed.
func Core(c api.Scale, s api.Sheet, stake, known int) (api.Span, api.Errno) {
	if e := checkStake(c, s, stake, known); e != api.OK {
		return api.Span{}, e
	}
	t, e := possible(c, s, known)
	if e != api.OK {
		return api.Span{}, e
	}
	return core(s, s.Stakes[stake], t), api.OK
}

// Water returns how many millimetres of water there can have been at a stake.
func Water(c api.Scale, s api.Sheet, stake, known int) (api.Span, api.Errno) {
	if e := checkStake(c, s, stake, known); e != api.OK {
		return api.Span{}, e
	}
	w, e := snow(c, s, s.Stakes[stake:stake+1], known)
	if e != api.OK {
		return api.Span{}, e
	}
	return rounded(w, 1, parts*s.Mouth), api.OK
}

// Course returns how many millimetres of water there can have been on the average of all stakes.
func Course(c api.Scale, s api.Sheet, known int) (api.Span, api.Errno) {
	// A valid sheet has a first stake.
	if e := checkStake(c, s, 0, known); e != api.OK {
		return api.Span{}, e
	}
	w, e := snow(c, s, s.Stakes, known)
	if e != api.OK {
		return api.Span{}, e
	}
	return rounded(w, 1, parts*s.Mouth*len(s.Stakes)), api.OK
}

// Density returns the least and the greatest density of a stake, in thousandths.
func Density(c api.Scale, s api.Sheet, stake, known int) (api.Span, api.Errno) {
	if e := checkStake(c, s, stake, known); e != api.OK {
		return api.Span{}, e
	}
	depth := s.Stakes[stake].Depth
	if depth == 0 {
		return api.Span{}, api.ErrNone
	}
	w, e := snow(c, s, s.Stakes[stake:stake+1], known)
	if e != api.OK {
		return api.Span{}, e
	}
	return rounded(w, 1000, parts*s.Mouth*depth), api.OK
}

// checkStake returns the first error of the arguments of a question about a stake.
func checkStake(c api.Scale, s api.Sheet, stake, known int) api.Errno {
	if e := CheckScale(c); e != api.OK {
		return e
	}
	if e := CheckSheet(s); e != api.OK {
		return e
	}
	if c.No != s.Scale || stake < 0 || stake >= len(s.Stakes) || !isDay(known) {
		return api.ErrArg
	}
	return api.OK
}

// possible returns the turns with which s is possible, or ErrApart.
func possible(c api.Scale, s api.Sheet, known int) (api.Span, api.Errno) {
	t := turn(c, s.EmptyDay, s.Day, known)
	for _, x := range s.Stakes {
		t.Hi = ends(t.Hi, x.Full-s.Empty).Lo
	}
	if t.Hi < t.Lo {
		return api.Span{}, api.ErrApart
	}
	return t, api.OK
}

// core returns what the core of a stake weighs, with one of the turns t.
func core(s api.Sheet, x api.Stake, t api.Span) api.Span {
	net := x.Full - s.Empty
	return api.Span{Lo: ends(0, net-t.Hi-x.Soil).Hi, Hi: net - t.Lo}
}

// snow returns what the snow of some stakes weighs together, in parts of a gram. All weights are greatest with the least turn, and least with the greatest one, so the sum is as well.
func snow(c api.Scale, s api.Sheet, stakes []api.Stake, known int) (api.Span, api.Errno) {
	t, e := possible(c, s, known)
	if e != api.OK {
		return api.Span{}, e
	}
	var sum api.Span
	for _, x := range stakes {
		w := core(s, x, t)
		lost := x.Lost * s.Mouth
		sum.Lo += parts*w.Lo + lost
		sum.Hi += parts * (w.Hi + lost)
	}
	return sum, api.OK
}

// rounded returns w, which is not negative, times a number and divided by another one: its least end rounded down, its greatest one rounded up.
func rounded(w api.Span, times, by int) api.Span {
	return api.Span{Lo: w.Lo * times / by, Hi: (w.Hi*times + by - 1) / by}
}
