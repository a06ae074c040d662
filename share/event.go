package share

import (
	"slices"

	"snowline/api"
)

// CheckEvent returns ErrEvent unless e is well-formed.
func CheckEvent(e api.Event) api.Errno {
	if !isNo(e.No) || !isDay(e.Known) || !isDay(e.Day) || !isNo(e.Right) || !hasFields(e) {
		return api.ErrEvent
	}
	return api.OK
}

// hasFields reports whether the fields of e that depend on its kind are as they should be.
func hasFields(e api.Event) bool {
	isGranting := e.Valley != 0 || e.From != 0 || e.To != 0 || e.Claim != 0
	switch e.Kind {
	case api.GrantE:
		return isNo(e.Holder) && isNo(e.Valley) && isDay(e.From) && isDay(e.To) && e.From <= e.To && isVolume(e.Claim)
	case api.PassE:
		return isNo(e.Holder) && !isGranting
	case api.HoldE, api.FreeE, api.EndE:
		return e.Holder == 0 && !isGranting
	}
	return false
}

// Check returns the error of the first event of r that does not continue it.
func Check(r api.Register) api.Errno {
	if len(r.Events) > api.MaxEvents {
		return api.ErrLimit
	}
	for i, x := range r.Events {
		if e := CheckEvent(x); e != api.OK {
			return e
		}
		if !follows(r.Events[:i], x) {
			return api.ErrOrder
		}
	}
	return api.OK
}

// follows reports whether a well-formed event continues the events l.
func follows(l []api.Event, e api.Event) bool {
	if e.No != len(l) || len(l) > 0 && e.Known < l[len(l)-1].Known {
		return false
	}
	at := slices.IndexFunc(l, func(x api.Event) bool { return x.Kind == api.GrantE && x.Right == e.Right })
	if e.Kind == api.GrantE {
		return at < 0
	}
	return at >= 0 && e.Day >= l[at].Day
}

// Enter returns r with e as its last event.
func Enter(r api.Register, e api.Event) (api.Register, api.Errno) {
	if e := Check(r); e != api.OK {
		return api.Register{}, e
	}
	if e := CheckEvent(e); e != api.OK {
		return api.Register{}, e
	}
	if len(r.Events) == api.MaxEvents {
		return api.Register{}, api.ErrLimit
	}
	if !follows(r.Events, e) {
		return api.Register{}, api.ErrOrder
	}
	return api.Register{Events: slices.Concat(r.Events, []api.Event{e})}, api.OK
}
