package share_test

import (
	"math/rand"
	"slices"
	"testing"

	"snowline/api"
	"snowline/share"
)

// P8.5: the chapter's example, and cuts that prove nothing.
func TestCheckLacksExamples(t *testing.T) {
	yes, no := true, false
	for i, x := range []struct {
		volumes       []int
		rights, nodes []bool
		e             api.Errno
	}{
		{[]int{5, 8}, []bool{yes, yes}, []bool{yes, yes}, api.OK}, {[]int{5, 8}, []bool{yes, no}, []bool{yes, no}, api.OK}, {[]int{5, 0}, []bool{yes, no}, []bool{yes, no}, api.OK}, {[]int{4, 8}, []bool{yes, yes}, []bool{yes, yes}, api.ErrPlan},
		{[]int{4, 9}, []bool{yes, yes}, []bool{yes, yes}, api.OK}, {[]int{5, 8}, []bool{no, yes}, []bool{yes, yes}, api.ErrPlan}, {[]int{5, 8}, []bool{yes, yes}, []bool{yes, no}, api.ErrPlan}, {[]int{5, 9}, []bool{yes, yes}, []bool{no, yes}, api.ErrPlan},
		{[]int{5, 9}, []bool{no, yes}, []bool{no, yes}, api.ErrPlan}, {[]int{5, 8}, []bool{yes, yes}, []bool{no, no}, api.ErrPlan}, {[]int{5, 8}, []bool{no, no}, []bool{no, no}, api.ErrPlan}, {[]int{5, 8}, []bool{yes}, []bool{yes, yes}, api.ErrPlan},
		{[]int{5, 8}, []bool{yes, yes, yes}, []bool{yes, yes}, api.ErrPlan}, {[]int{5, 8}, []bool{yes, yes}, []bool{yes}, api.ErrPlan}, {[]int{5, 8}, []bool{yes, yes}, []bool{yes, yes, yes}, api.ErrPlan}, {[]int{5, 8}, nil, nil, api.ErrPlan},
		{[]int{0, 0}, []bool{yes, yes}, []bool{yes, yes}, api.ErrPlan}, {[]int{5, 8}, []bool{yes, yes}, nil, api.ErrPlan}, {[]int{5, 8}, nil, []bool{yes, yes}, api.ErrPlan},
	} {
		if e := share.CheckLacks(sampleShare(3), x.volumes, api.Cut{Rights: x.rights, Nodes: x.nodes}); e != x.e {
			t.Error(i, e)
		}
	}
	// The room counts where the supply just before is none of the cut: 8 and 3 are 11.
	for _, x := range []struct {
		room, volume int
		nodes        []bool
		e            api.Errno
	}{{3, 12, []bool{no, yes}, api.OK}, {3, 11, []bool{no, yes}, api.ErrPlan}, {0, 9, []bool{no, yes}, api.OK}, {0, 8, []bool{no, yes}, api.ErrPlan}, {3, 12, []bool{yes, yes}, api.ErrPlan}, {3, 13, []bool{yes, yes}, api.OK}, {9, 13, []bool{no, yes}, api.ErrPlan}} {
		if e := share.CheckLacks(lateShare(x.room), []int{0, x.volume}, api.Cut{Rights: []bool{no, yes}, Nodes: x.nodes}); e != x.e {
			t.Error(x, e)
		}
	}
	nothing := api.Share{Rights: []api.Right{{Claim: 3}}}
	if e := share.CheckLacks(nothing, []int{1}, api.Cut{Rights: []bool{yes}}); e != api.OK {
		t.Error(e)
	}
	if e := share.CheckLacks(nothing, []int{0}, api.Cut{Rights: []bool{yes}}); e != api.ErrPlan {
		t.Error(e)
	}
	if e := share.CheckLacks(api.Share{}, nil, api.Cut{}); e != api.ErrPlan {
		t.Error(e)
	}
}

// proves tells from the chapter whether a cut proves that volumes cannot be taken together.
func proves(s api.Share, volumes []int, x api.Cut) bool {
	bound, sum := 0, 0
	for i, supply := range s.Supplies {
		if x.Nodes[i] {
			bound += supply.Volume
			if i > 0 && s.Supplies[i-1].Valley == supply.Valley && !x.Nodes[i-1] {
				bound += room(s, supply.Valley)
			}
		}
	}
	for i, right := range s.Rights {
		if !x.Rights[i] {
			continue
		}
		sum += volumes[i]
		for j, supply := range s.Supplies {
			if supply.Valley == right.Valley && right.From <= supply.Day && supply.Day <= right.To && !x.Nodes[j] {
				return false
			}
		}
	}
	return sum > bound
}

// eachCut calls do with all cuts of the right size for s.
func eachCut(s api.Share, do func(x api.Cut)) {
	count := len(s.Rights) + len(s.Supplies)
	for set := range 1 << count {
		l := make([]bool, count)
		for i := range l {
			l[i] = set>>i&1 == 1
		}
		do(api.Cut{Rights: l[:len(s.Rights)], Nodes: l[len(s.Rights):]})
	}
}

// P8.4, P8.5 and P8.9: volumes can be taken together exactly if there are possible draws, and exactly if no cut proves that they cannot.
func TestEitherPlanOrCut(t *testing.T) {
	r := rand.New(rand.NewSource(89))
	plans, cuts, proofs := 0, 0, 0
	for range 400 {
		s := randomShare(r, 3, 3, 3)
		can := takeable(s)
		eachVolumes(s, func(volumes []int) {
			isProved := false
			eachCut(s, func(x api.Cut) {
				want := proves(s, volumes, x)
				if e := share.CheckLacks(s, volumes, x); want && e != api.OK || !want && e != api.ErrPlan {
					t.Fatal(s, volumes, x, e, want)
				}
				if isProved = isProved || want; want {
					proofs++
				}
			})
			if isProved == can[key(volumes)] {
				t.Fatal(s, volumes, isProved)
			}
			isPlan, isCut := checkBoth(t, s, volumes)
			if isPlan != can[key(volumes)] || isCut != isProved {
				t.Fatal(s, volumes, isPlan, isCut)
			}
			if isPlan {
				plans++
			} else {
				cuts++
			}
		})
	}
	if plans < 500 || cuts < 500 || proofs < 1000 {
		t.Error(plans, cuts, proofs)
	}
}

// checkBoth reports whether there is a plan, and whether there is a cut, and that they are accepted.
func checkBoth(t *testing.T, s api.Share, volumes []int) (isPlan, isCut bool) {
	t.Helper()
	l, isPlan, e := share.Plan(s, volumes)
	if e != api.OK || isPlan != (share.CheckPlan(s, volumes, l) == api.OK) || !isPlan && l != nil {
		t.Fatal(s, volumes, l, isPlan, e)
	}
	x, isCut, e := share.Lacks(s, volumes)
	if e != api.OK || isCut != (share.CheckLacks(s, volumes, x) == api.OK) || !isCut && (x.Rights != nil || x.Nodes != nil) {
		t.Fatal(s, volumes, x, isCut, e)
	}
	return isPlan, isCut
}

// P8.9: of the greatest shares as well, where volumes are just enough or one too many.
func TestEitherPlanOrCutOfGreatShares(t *testing.T) {
	r := rand.New(rand.NewSource(892))
	plans, cuts := 0, 0
	for _, most := range []int{2, 50, 1 << 20, api.MaxVolume} {
		for range 25 {
			s := longShare(r, most)
			l := promises(t, s)
			for i := range l {
				if l[i] < s.Rights[i].Claim {
					next := slices.Clone(l)
					next[i]++
					if isPlan, isCut := checkBoth(t, s, next); isPlan || !isCut || isEnough(t, s, next) {
						t.Fatal(s, next, isPlan, isCut)
					}
					cuts++
				}
			}
			for _, volumes := range [][]int{l, randomVolumes(r, s), make([]int, len(l))} {
				isPlan, isCut := checkBoth(t, s, volumes)
				if isPlan == isCut || isPlan != isEnough(t, s, volumes) {
					t.Fatal(s, volumes, isPlan, isCut)
				}
				if isPlan {
					plans++
				}
			}
		}
	}
	if plans < 100 || cuts < 100 {
		t.Error(plans, cuts)
	}
}
