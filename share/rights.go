package share

import (
	"cmp"
	"slices"

	"snowline/api"
)

// state is what events have made of a right.
type state struct {
	right                            api.Right
	isGranted, isSuspended, hasEnded bool
}

func (x state) stands() bool { return x.isGranted && !x.isSuspended && !x.hasEnded }

// happened returns what has happened to a right by a day, as known on another day.
func happened(r api.Register, right, day, known int) []api.Event {
	var l []api.Event
	for _, x := range r.Events {
		if x.Right == right && x.Day <= day && x.Known <= known {
			l = append(l, x)
		}
	}
	slices.SortFunc(l, func(a, b api.Event) int {
		return cmp.Or(cmp.Compare(a.Day, b.Day), cmp.Compare(a.No, b.No))
	})
	return l
}

// become returns what events, in their order, make of a right.
func become(l []api.Event) state {
	var out state
	for _, x := range l {
		switch x.Kind {
		case api.GrantE:
			out.right = api.Right{No: x.Right, Holder: x.Holder, Age: x.Day, Valley: x.Valley, From: x.From, To: x.To, Claim: x.Claim}
			out.isGranted = true
		case api.PassE:
			out.right.Holder = x.Holder
		case api.HoldE:
			out.isSuspended = true
		case api.FreeE:
			out.isSuspended = false
		case api.EndE:
			out.hasEnded = true
		}
	}
	return out
}

// standing returns the rights of a valid register that stand, the elder ones first.
func standing(r api.Register, day, known int) []api.Right {
	var l []api.Right
	for _, x := range r.Events {
		if x.Kind != api.GrantE {
			continue
		}
		if y := become(happened(r, x.Right, day, known)); y.stands() {
			l = append(l, y.right)
		}
	}
	slices.SortFunc(l, byAge)
	return l
}

// Holder returns whose a right is on a day, as known on another day.
func Holder(r api.Register, right, day, known int) (int, api.Errno) {
	if e := Check(r); e != api.OK {
		return 0, e
	}
	if !isNo(right) || !isDay(day) || !isDay(known) {
		return 0, api.ErrArg
	}
	x := become(happened(r, right, day, known))
	if !x.isGranted || x.hasEnded {
		return 0, api.ErrNone
	}
	return x.right.Holder, api.OK
}

// Standing returns the rights that stand on a day, as known on another day, by their age.
func Standing(r api.Register, day, known int) ([]api.Right, api.Errno) {
	if e := Check(r); e != api.OK {
		return nil, e
	}
	if !isDay(day) || !isDay(known) {
		return nil, api.ErrArg
	}
	return standing(r, day, known), api.OK
}

// History returns the numbers of the events about a right, by their days.
func History(r api.Register, right, known int) ([]int, api.Errno) {
	if e := Check(r); e != api.OK {
		return nil, e
	}
	if !isNo(right) || !isDay(known) {
		return nil, api.ErrArg
	}
	var numbers []int
	for _, x := range happened(r, right, api.MaxDay, known) {
		numbers = append(numbers, x.No)
	}
	return numbers, api.OK
}

// Changed returns the rights that stand otherwise on a day, as known on two days.
func Changed(r api.Register, day, before, after int) ([]int, api.Errno) {
	if e := Check(r); e != api.OK {
		return nil, e
	}
	if !isDay(day) || !isDay(before) || !isDay(after) {
		return nil, api.ErrArg
	}
	former, latter := standing(r, day, before), standing(r, day, after)
	var numbers []int
	for _, x := range slices.Concat(former, latter) {
		// A right that stands in the same way is in both.
		if !slices.Contains(former, x) || !slices.Contains(latter, x) {
			numbers = append(numbers, x.No)
		}
	}
	slices.Sort(numbers)
	return slices.Compact(numbers), api.OK
}
