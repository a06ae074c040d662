package share_test

import (
	"math"
	"slices"
	"testing"

	"snowline/api"
	"snowline/share"
)

// rights returns so many valid rights.
func rights(count int) []api.Right {
	l := make([]api.Right, count)
	for i := range l {
		l[i].No = i
	}
	return l
}

// supplies returns so many valid supplies.
func supplies(count int) []api.Supply {
	l := make([]api.Supply, count)
	for i := range l {
		l[i].Day = i
	}
	return l
}

// ponds returns so many valid ponds.
func ponds(count int) []api.Pond {
	l := make([]api.Pond, count)
	for i := range l {
		l[i].Valley = i
	}
	return l
}

// P8.3
func TestValidShares(t *testing.T) {
	greatest := api.Right{No: 4095, Holder: 4095, Age: 1048576, Valley: 4095, From: 1048576, To: 1048576, Claim: 1099511627776}
	for i, s := range []api.Share{
		{}, {Rights: []api.Right{}, Supplies: []api.Supply{}, Ponds: []api.Pond{}}, sampleShare(0), sampleShare(3), {Rights: rights(32), Supplies: supplies(64), Ponds: ponds(64)}, {Rights: rights(32)}, {Supplies: supplies(64)}, {Ponds: ponds(64)},
		{Rights: []api.Right{{}, greatest}, Supplies: []api.Supply{{}, {Valley: 4095, Day: 1048576, Volume: 1099511627776}}, Ponds: []api.Pond{{}, {Valley: 4095, Room: 1099511627776}}},
		{Rights: []api.Right{{No: 5}, {No: 6}, {No: 4, Age: 1}}}, {Rights: []api.Right{{From: 3, To: 3}}}, {Rights: []api.Right{{Age: 9, From: 3, To: 4}}},
		{Supplies: []api.Supply{{Valley: 1, Day: 5}, {Valley: 1, Day: 6}, {Valley: 2, Day: 0}, {Valley: 2, Day: 5}}},
	} {
		if e := share.CheckShare(s); e != api.OK {
			t.Error(i, e)
		}
	}
}

// P8.3
func TestInvalidShares(t *testing.T) {
	for i, l := range [][]api.Right{
		{{No: -1}}, {{No: 4096}}, {{Holder: -1}}, {{Holder: 4096}}, {{Valley: -1}}, {{Valley: 4096}}, {{Age: -1}}, {{Age: 1048577}}, {{From: -1}}, {{From: 1048577, To: 1048577}}, {{To: -1}}, {{To: 1048577}}, {{From: -2, To: -1}},
		{{From: 2, To: 1}}, {{From: 1}}, {{Claim: -1}}, {{Claim: 1099511627777}}, {{Claim: math.MaxInt}}, {{Claim: math.MinInt}}, {{No: 5}, {No: 5}}, {{No: 6}, {No: 5}}, {{Age: 1, No: 5}, {No: 6}}, {{No: 5}, {Age: 1, No: 5}},
		{{No: 5}, {No: 7, Age: 1}, {No: 5, Age: 2}}, {{}, {No: 1}, {No: 2, Claim: -1}}, rights(33), {{No: 7, Age: 1}, {No: 7}}, {{No: -1}, {No: 5, From: 1}},
	} {
		if e := share.CheckShare(api.Share{Rights: l}); e != api.ErrSupply {
			t.Error(i, e)
		}
	}
	for i, l := range [][]api.Supply{
		{{Valley: -1}}, {{Valley: 4096}}, {{Day: -1}}, {{Day: 1048577}}, {{Volume: -1}}, {{Volume: 1099511627777}}, {{Volume: math.MaxInt}}, {{Volume: math.MinInt}}, {{Day: 5}, {Day: 5}}, {{Day: 5}, {Day: 4}},
		{{Valley: 2}, {Valley: 1, Day: 5}}, {{Valley: 1, Day: 5}, {Valley: 1, Day: 5, Volume: 1}}, {{}, {Day: 1}, {Day: 2, Volume: -1}}, supplies(65), {{Day: 1}, {Day: 3}, {Day: 2}}, {{Valley: -1, Day: 5}, {Valley: -1, Day: 4}},
	} {
		if e := share.CheckShare(api.Share{Supplies: l}); e != api.ErrSupply {
			t.Error(i, e)
		}
	}
	for i, l := range [][]api.Pond{
		{{Valley: -1}}, {{Valley: 4096}}, {{Room: -1}}, {{Room: 1099511627777}}, {{Room: math.MaxInt}}, {{Room: math.MinInt}}, {{Valley: 1}, {Valley: 1}}, {{Valley: 2}, {Valley: 1}}, {{}, {Valley: 1}, {Valley: 2, Room: -1}}, ponds(65), {{Valley: 1}, {Valley: 3}, {Valley: 2}},
	} {
		if e := share.CheckShare(api.Share{Ponds: l}); e != api.ErrSupply {
			t.Error(i, e)
		}
	}
}

// P8.3, P8.4 and P8.5: volumes that are none for the share.
func TestInvalidVolumes(t *testing.T) {
	s := sampleShare(3)
	for i, l := range [][]int{nil, {}, {1}, {1, 1, 1}, {-1, 0}, {0, -1}, {6, 0}, {0, 10}, {math.MaxInt, math.MaxInt}, {math.MinInt, 0}, {6, -1}, {0, 0, -1}} {
		if is, e := share.Enough(s, l); is || e != api.ErrArg {
			t.Error(i, is, e)
		}
		if draws, is, e := share.Plan(s, l); draws != nil || is || e != api.ErrArg {
			t.Error(i, draws, is, e)
		}
		if e := share.CheckPlan(s, l, nil); e != api.ErrArg {
			t.Error(i, e)
		}
		if x, is, e := share.Lacks(s, l); x.Rights != nil || x.Nodes != nil || is || e != api.ErrArg {
			t.Error(i, x, is, e)
		}
		if e := share.CheckLacks(s, l, api.Cut{}); e != api.ErrArg {
			t.Error(i, e)
		}
	}
	for _, l := range [][]int{{0, 0}, {5, 9}} {
		if _, e := share.Enough(s, l); e != api.OK {
			t.Error(l, e)
		}
	}
	if is, e := share.Enough(api.Share{}, nil); !is || e != api.OK {
		t.Error(is, e)
	}
	if !slices.Equal(promises(t, api.Share{}), nil) {
		t.Error("something is promised to nobody")
	}
}
