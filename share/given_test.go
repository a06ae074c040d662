package share_test

import (
	"reflect"
	"slices"
	"testing"

	"snowline/api"
	"snowline/share"
)

// arguments are what functions are called with.
type arguments struct {
	r       api.Register
	x       api.Event
	day     int
	s       api.Share
	volumes []int
	draws   []api.Draw
	cut     api.Cut
}

// valid returns arguments that cause no error: 4 and 8 can be taken together, and the cut proves that 5 and 8 cannot.
func valid() arguments {
	return arguments{
		r: sampleRegister(), x: event(api.HoldE, 6, 40, 35, 9), day: 30, s: sampleShare(3), volumes: []int{4, 8},
		draws: []api.Draw{draw(7, 15, 4), draw(8, 25, 8)}, cut: api.Cut{Rights: []bool{true, true}, Nodes: []bool{true, true}},
	}
}

// spoil makes those arguments invalid for which functions return an error.
func (a *arguments) spoil(e api.Errno) {
	switch e {
	case api.ErrLimit:
		a.r.Events = make([]api.Event, 257)
	case api.ErrEvent:
		a.r.Events[2].Kind = 6
	case api.ErrOrder:
		a.r.Events[3].Right = 10
	case api.ErrSupply:
		a.s.Supplies[0].Volume = -1
	case api.ErrArg:
		a.day, a.volumes = -1, []int{4, 8, 0}
	case api.ErrPlan:
		a.draws, a.cut = nil, api.Cut{}
	case api.ErrNone:
		a.day = 9
	}
}

// call is a function of the package, and its errors in their order.
type call struct {
	name  string
	order []api.Errno
	do    func(a arguments) []any // the last result is the error
}

// results returns what was returned.
func results(l ...any) []any { return l }

// two returns a list of two results, as those of a call cannot stand beside other arguments.
func two(x any, e api.Errno) []any { return results(x, e) }

func three(x, y any, e api.Errno) []any { return results(x, y, e) }

func calls() []call {
	register := []api.Errno{api.ErrLimit, api.ErrArg}
	ordered := []api.Errno{api.ErrOrder, api.ErrArg}
	rights := []api.Errno{api.ErrSupply, api.ErrArg}
	return []call{
		{"Check", []api.Errno{api.ErrLimit}, func(a arguments) []any { return results(share.Check(a.r)) }},
		{"Check", []api.Errno{api.ErrEvent, api.ErrOrder}, func(a arguments) []any { return results(share.Check(a.r)) }},
		{"Enter", []api.Errno{api.ErrLimit}, func(a arguments) []any { return two(share.Enter(a.r, a.x)) }},
		{"Enter", []api.Errno{api.ErrEvent, api.ErrOrder}, func(a arguments) []any { return two(share.Enter(a.r, a.x)) }},
		{"Holder", register, func(a arguments) []any { return two(share.Holder(a.r, 7, a.day, 30)) }},
		{"Holder", []api.Errno{api.ErrOrder, api.ErrNone}, func(a arguments) []any { return two(share.Holder(a.r, 7, a.day, 30)) }},
		{"Standing", register, func(a arguments) []any { return two(share.Standing(a.r, a.day, 30)) }},
		{"History", ordered, func(a arguments) []any { return two(share.History(a.r, 7, a.day)) }},
		{"Changed", ordered, func(a arguments) []any { return two(share.Changed(a.r, a.day, 20, 30)) }},
		{"CheckShare", rights[:1], func(a arguments) []any { return results(share.CheckShare(a.s)) }},
		{"Enough", rights, func(a arguments) []any { return two(share.Enough(a.s, a.volumes)) }},
		{"Promise", rights[:1], func(a arguments) []any { return two(share.Promise(a.s)) }},
		{"Short", rights[:1], func(a arguments) []any { return two(share.Short(a.s)) }},
		{"Plan", rights, func(a arguments) []any { return three(share.Plan(a.s, a.volumes)) }},
		{"CheckPlan", append(rights, api.ErrPlan), func(a arguments) []any { return results(share.CheckPlan(a.s, a.volumes, a.draws)) }},
		{"Lacks", rights, func(a arguments) []any { return three(share.Lacks(a.s, a.volumes)) }},
		{"CheckLacks", append(rights, api.ErrPlan), func(a arguments) []any {
			volumes := slices.Clone(a.volumes)
			volumes[0]++
			return results(share.CheckLacks(a.s, volumes, a.cut))
		}},
		{"Need", rights, func(a arguments) []any { return three(share.Need(a.s, 0, 1, a.day-15)) }},
	}
}

// P8.1 to P8.6: the errors of all functions, in their order.
func TestErrorOrder(t *testing.T) {
	for _, c := range calls() {
		if out := c.do(valid()); out[len(out)-1] != api.OK {
			t.Errorf("%s of valid arguments returns %v", c.name, out)
		}
		for i, want := range c.order {
			a := valid()
			for _, e := range c.order[i:] {
				a.spoil(e)
				out := c.do(a)
				if out[len(out)-1] != want {
					t.Errorf("%s, spoilt from %d to %d, returns the error %v", c.name, want, e, out[len(out)-1])
				}
				for _, x := range out[:len(out)-1] {
					if !reflect.ValueOf(x).IsZero() {
						t.Errorf("%s returns %v with the error %d", c.name, x, want)
					}
				}
			}
		}
	}
}

// P8.2 and P8.6: each number that is none.
func TestInvalidNumbers(t *testing.T) {
	r, s := sampleRegister(), sampleShare(3)
	try := func(right, day, known int) []api.Errno {
		_, holder := share.Holder(r, right, day, known)
		_, standing := share.Standing(r, day, known)
		_, history := share.History(r, right, known)
		_, changed := share.Changed(r, day, 50, known)
		_, back := share.Changed(r, day, known, 50)
		return []api.Errno{holder, standing, history, changed, back}
	}
	const ok, wrong = api.OK, api.ErrArg
	for i, x := range []struct {
		right, day, known int
		want              []api.Errno
	}{
		{9, 5, 50, []api.Errno{ok, ok, ok, ok, ok}}, {9, 5, 1048576, []api.Errno{ok, ok, ok, ok, ok}}, {4095, 1048576, 0, []api.Errno{api.ErrNone, ok, ok, ok, ok}}, {0, 0, 0, []api.Errno{api.ErrNone, ok, ok, ok, ok}},
		{-1, 5, 50, []api.Errno{wrong, ok, wrong, ok, ok}}, {4096, 5, 50, []api.Errno{wrong, ok, wrong, ok, ok}}, {9, -1, 50, []api.Errno{wrong, wrong, ok, wrong, wrong}}, {9, 1048577, 50, []api.Errno{wrong, wrong, ok, wrong, wrong}},
		{9, 5, -1, []api.Errno{wrong, wrong, wrong, wrong, wrong}}, {9, 5, 1048577, []api.Errno{wrong, wrong, wrong, wrong, wrong}},
	} {
		if l := try(x.right, x.day, x.known); !slices.Equal(l, x.want) {
			t.Error(i, l)
		}
	}
	for i, x := range [][3]int{{0, 0, 0}, {1, 4095, 1048576}} {
		if _, _, e := share.Need(s, x[0], x[1], x[2]); e != ok {
			t.Error(i, e)
		}
	}
}

// roomy returns l with room behind it, in which something stands.
func roomy[T any](l []T, behind T) []T {
	out := make([]T, 0, len(l)+3)
	out = append(out, l...)
	out = append(out, behind, behind, behind)
	return out[:len(l)]
}

// R2: no function changes its arguments, also behind the ends of lists, nor what it has returned, and all results are new memory.
func TestPurity(t *testing.T) {
	for _, c := range calls() {
		a, fresh := valid(), valid()
		a.r.Events = roomy(a.r.Events, pass(9, 9, 9, 9, 9))
		a.s = api.Share{Rights: roomy(a.s.Rights, api.Right{No: 9}), Supplies: roomy(a.s.Supplies, api.Supply{Day: 9}), Ponds: roomy(a.s.Ponds, api.Pond{Room: 9})}
		a.volumes, a.draws = roomy(a.volumes, 9), roomy(a.draws, draw(9, 9, 9))
		a.cut = api.Cut{Rights: roomy(a.cut.Rights, true), Nodes: roomy(a.cut.Nodes, true)}
		first, again := c.do(a), c.do(a)
		if !reflect.DeepEqual(a, fresh) {
			t.Errorf("%s changes an argument", c.name)
		}
		if a.r.Events[:7][6] != pass(9, 9, 9, 9, 9) || a.s.Rights[:3][2].No != 9 || a.s.Supplies[:3][2].Day != 9 || a.s.Ponds[:2][1].Room != 9 || a.volumes[:3][2] != 9 || a.draws[:3][2] != draw(9, 9, 9) || !a.cut.Rights[:3][2] || !a.cut.Nodes[:3][2] {
			t.Errorf("%s changes what is behind an argument", c.name)
		}
		if !reflect.DeepEqual(first, again) {
			t.Errorf("%s returns %v and %v", c.name, first, again)
		}
		clear(a.r.Events)
		clear(a.s.Rights)
		clear(a.s.Supplies)
		clear(a.volumes)
		if !reflect.DeepEqual(first, again) || !reflect.DeepEqual(first, c.do(valid())) {
			t.Errorf("%s returns memory of its arguments", c.name)
		}
		for _, x := range first {
			if y := reflect.ValueOf(x); y.Kind() == reflect.Slice {
				y.Slice(0, y.Len()).Clear()
			}
		}
		if !reflect.DeepEqual(again, c.do(valid())) {
			t.Errorf("%s returns memory of its results", c.name)
		}
	}
	r, _ := share.Enter(sampleRegister(), event(api.HoldE, 6, 40, 35, 9))
	a, _ := share.Enter(r, event(api.FreeE, 7, 40, 35, 9))
	b, _ := share.Enter(r, event(api.EndE, 7, 40, 35, 9))
	if a.Events[7].Kind != api.FreeE || b.Events[7].Kind != api.EndE {
		t.Error("registers share memory")
	}
}

// R3: nil lists and empty ones are the same.
func TestEmptyLists(t *testing.T) {
	empty := api.Share{Rights: []api.Right{}, Supplies: []api.Supply{}, Ponds: []api.Pond{}}
	for _, s := range []api.Share{{}, empty} {
		for _, volumes := range [][]int{nil, {}} {
			isPlan, isCut := checkBoth(t, s, volumes)
			if !isPlan || isCut || !isEnough(t, s, volumes) || len(promises(t, s)) != 0 || share.CheckPlan(s, volumes, []api.Draw{}) != api.OK || share.CheckLacks(s, volumes, api.Cut{Rights: []bool{}, Nodes: []bool{}}) != api.ErrPlan {
				t.Error(s, volumes, isPlan, isCut)
			}
		}
	}
	for _, r := range []api.Register{{}, {Events: []api.Event{}}} {
		l, e := share.Standing(r, 0, 0)
		if len(l) != 0 || e != api.OK {
			t.Error(l, e)
		}
	}
}
