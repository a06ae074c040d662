package share_test

import (
	"math"
	"slices"
	"testing"

	"snowline/api"
	"snowline/share"
)

// P8.1: events are well-formed at both ends of all ranges.
func TestWellFormed(t *testing.T) {
	for i, x := range []api.Event{
		{Kind: api.GrantE}, {Kind: api.PassE}, {Kind: api.HoldE}, {Kind: api.FreeE}, {Kind: api.EndE},
		{No: 4095, Known: 1048576, Day: 1048576, Kind: api.GrantE, Right: 4095, Holder: 4095, Valley: 4095, From: 1048576, To: 1048576, Claim: 1099511627776},
		{No: 4095, Known: 1048576, Day: 1048576, Kind: api.PassE, Right: 4095, Holder: 4095},
		{No: 4095, Known: 1048576, Day: 1048576, Kind: api.HoldE, Right: 4095}, {No: 4095, Known: 1048576, Day: 1048576, Kind: api.FreeE, Right: 4095}, {No: 4095, Known: 1048576, Day: 1048576, Kind: api.EndE, Right: 4095},
		{Kind: api.GrantE, From: 5, To: 5}, {Kind: api.GrantE, From: 5, To: 6}, {Kind: api.GrantE, Day: 5, Known: 4}, {Kind: api.GrantE, Day: 50, From: 5, To: 6},
	} {
		if e := share.CheckEvent(x); e != api.OK {
			t.Error(i, e)
		}
	}
}

// P8.1: fields beyond their ranges, and such as are not named for the kind.
func TestNotWellFormed(t *testing.T) {
	kinds := []int{api.GrantE, api.PassE, api.HoldE, api.FreeE, api.EndE}
	common := []func(x *api.Event, n int){func(x *api.Event, n int) { x.No = n }, func(x *api.Event, n int) { x.Right = n }, func(x *api.Event, n int) { x.Known = n }, func(x *api.Event, n int) { x.Day = n }}
	own := []func(x *api.Event, n int){
		func(x *api.Event, n int) { x.Holder = n }, func(x *api.Event, n int) { x.Valley = n }, func(x *api.Event, n int) { x.From, x.To = min(n, 0), n }, func(x *api.Event, n int) { x.To = n }, func(x *api.Event, n int) { x.Claim = n },
	}
	most := []int{api.MaxNo, api.MaxNo, api.MaxDay, api.MaxDay, api.MaxVolume}
	for _, kind := range kinds {
		for i, set := range common {
			for _, n := range []int{-1, []int{4096, 4096, 1048577, 1048577}[i], math.MaxInt, math.MinInt} {
				x := api.Event{Kind: kind}
				if set(&x, n); share.CheckEvent(x) != api.ErrEvent {
					t.Error(x)
				}
			}
		}
		for i, set := range own {
			want := most[i] // the greatest value for this kind
			if kind != api.GrantE && !(kind == api.PassE && i == 0) {
				want = 0
			}
			for _, n := range []int{-1, 0, 1, most[i], most[i] + 1, math.MaxInt, math.MinInt} {
				x := api.Event{Kind: kind}
				if set(&x, n); (share.CheckEvent(x) == api.OK) != (0 <= n && n <= want) {
					t.Error(x, share.CheckEvent(x))
				}
			}
		}
	}
	for i, x := range []api.Event{{}, {Kind: 6}, {Kind: -1}, {Kind: math.MaxInt}, {Kind: math.MinInt}, {Kind: api.GrantE, From: 2, To: 1}, {Kind: api.GrantE, From: 1}, {Kind: api.PassE, From: 1}, {Kind: api.HoldE, Holder: 1}} {
		if e := share.CheckEvent(x); e != api.ErrEvent {
			t.Error(i, e)
		}
	}
}

// P8.1: what continues the sample register, and what does not.
func TestEnter(t *testing.T) {
	r := sampleRegister()
	for i, x := range []struct {
		x api.Event
		e api.Errno
	}{
		{event(api.HoldE, 6, 40, 35, 9), api.OK}, {event(api.HoldE, 6, 41, 5, 9), api.OK}, {event(api.HoldE, 6, 40, 4, 9), api.ErrOrder}, {event(api.HoldE, 6, 39, 35, 9), api.ErrOrder},
		{event(api.HoldE, 5, 40, 35, 9), api.ErrOrder}, {event(api.HoldE, 7, 40, 35, 9), api.ErrOrder}, {event(api.HoldE, 0, 40, 35, 9), api.ErrOrder}, {event(api.HoldE, 6, 40, 35, 8), api.ErrOrder},
		{event(api.FreeE, 6, 40, 10, 7), api.OK}, {event(api.FreeE, 6, 40, 9, 7), api.ErrOrder}, {event(api.EndE, 6, 40, 35, 7), api.OK}, {pass(6, 40, 10, 7, 2), api.OK}, {pass(6, 40, 10, 6, 2), api.ErrOrder},
		{grant(6, 40, 0, 8, 3), api.OK}, {grant(6, 40, 35, 9, 6), api.ErrOrder}, {grant(6, 40, 35, 7, 6), api.ErrOrder}, {grant(6, 39, 0, 8, 3), api.ErrOrder}, {grant(5, 40, 0, 8, 3), api.ErrOrder},
		{grant(6, api.MaxDay, api.MaxDay, 4095, 0), api.OK}, {api.Event{No: 6, Known: 40, Kind: 6}, api.ErrEvent}, {api.Event{No: 9, Known: 1, Kind: api.HoldE, Holder: 1}, api.ErrEvent}, {event(api.HoldE, 4096, 40, 35, 9), api.ErrEvent},
	} {
		out, e := share.Enter(r, x.x)
		if e != x.e {
			t.Error(i, e)
		}
		if e == api.OK && !slices.Equal(out.Events, append(slices.Clone(r.Events), x.x)) || e != api.OK && out.Events != nil {
			t.Error(i, out)
		}
		if e := share.Check(api.Register{Events: append(slices.Clone(r.Events), x.x)}); e != x.e {
			t.Error(i, e)
		}
	}
}

// P8.1: the first event that does not continue tells the error, whatever comes behind it.
func TestCheck(t *testing.T) {
	hold := event(api.HoldE, 0, 0, 0, 0)
	for i, x := range []struct {
		l []api.Event
		e api.Errno
	}{
		{nil, api.OK}, {[]api.Event{}, api.OK}, {sampleRegister().Events, api.OK}, {fullRegister().Events, api.OK},
		{[]api.Event{pass(0, 0, 0, 0, 0)}, api.ErrOrder}, {[]api.Event{hold}, api.ErrOrder}, {[]api.Event{event(api.FreeE, 0, 0, 0, 0)}, api.ErrOrder}, {[]api.Event{event(api.EndE, 0, 0, 0, 0)}, api.ErrOrder},
		{[]api.Event{grant(1, 0, 0, 0, 0)}, api.ErrOrder}, {[]api.Event{hold, {}}, api.ErrOrder}, {[]api.Event{{}, hold}, api.ErrEvent}, {[]api.Event{grant(0, 0, 0, 0, 0), hold, {}}, api.ErrOrder},
		{[]api.Event{grant(0, 0, 0, 0, 0), {}, hold}, api.ErrEvent}, {[]api.Event{grant(0, 5, 0, 0, 0), grant(1, 4, 0, 1, 0)}, api.ErrOrder}, {[]api.Event{grant(0, 5, 0, 0, 0), grant(1, 5, 0, 0, 0)}, api.ErrOrder},
		{[]api.Event{grant(0, 5, 8, 0, 0), grant(1, 5, 3, 1, 0), event(api.EndE, 2, 5, 7, 0)}, api.ErrOrder}, {[]api.Event{grant(0, 5, 8, 0, 0), grant(1, 5, 3, 1, 0), event(api.EndE, 2, 5, 3, 1)}, api.OK},
		{[]api.Event{pass(0, 5, 8, 0, 0), grant(1, 5, 3, 0, 0)}, api.ErrOrder}, {append(fullRegister().Events, grant(256, 10, 10, 256, 0)), api.ErrLimit}, {make([]api.Event, 257), api.ErrLimit}, {make([]api.Event, 256), api.ErrEvent},
	} {
		if e := share.Check(api.Register{Events: x.l}); e != x.e {
			t.Error(i, e)
		}
	}
}

// P8.1: the errors of Enter, in their order.
func TestEnterOrder(t *testing.T) {
	wrong := fullRegister()
	wrong.Events[200] = event(api.HoldE, 200, 10, 10, 201)
	long := api.Register{Events: make([]api.Event, 257)}
	short := fullRegister()
	short.Events = short.Events[:255]
	for i, x := range []struct {
		r api.Register
		x api.Event
		e api.Errno
	}{
		{long, api.Event{}, api.ErrLimit}, {wrong, api.Event{}, api.ErrOrder}, {fullRegister(), api.Event{}, api.ErrEvent}, {fullRegister(), event(api.HoldE, 0, 0, 0, 0), api.ErrLimit},
		{fullRegister(), event(api.HoldE, 256, 10, 10, 0), api.ErrLimit}, {short, event(api.HoldE, 255, 10, 9, 0), api.ErrOrder}, {short, event(api.HoldE, 255, 10, 10, 0), api.OK},
	} {
		out, e := share.Enter(x.r, x.x)
		if e != x.e || e != api.OK && out.Events != nil || e == api.OK && len(out.Events) != 256 {
			t.Error(i, len(out.Events), e)
		}
	}
}
