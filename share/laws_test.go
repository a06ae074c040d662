package share_test

import (
	"math/rand"
	"slices"
	"testing"

	"snowline/api"
	"snowline/share"
)

// P8.8: a further event changes nothing of what is known before it, and nothing on days before it; and beginnings of registers are valid.
func TestFurtherEvents(t *testing.T) {
	r := rand.New(rand.NewSource(88))
	changed := 0
	for range 200 {
		after := randomRegister(t, r, between(r, 1, 12))
		count := len(after.Events) - 1
		for i := range count {
			if e := share.Check(api.Register{Events: after.Events[:i]}); e != api.OK {
				t.Fatal(after, i, e)
			}
		}
		before := api.Register{Events: after.Events[:count]}
		x := after.Events[count]
		for day := range 9 {
			for known := range 9 {
				for right := range 4 {
					a, b := stands(t, before, right, day, known), stands(t, after, right, day, known)
					former, e := share.Holder(before, right, day, known)
					latter, f := share.Holder(after, right, day, known)
					isSame := a == b && former == latter && e == f
					if !isSame && (known < x.Known || day < x.Day || right != x.Right) {
						t.Fatal(after, right, day, known, a, b, former, latter)
					}
					if !isSame {
						changed++
					}
				}
			}
		}
		for known := range x.Known {
			a, _ := share.History(before, x.Right, known)
			b, _ := share.History(after, x.Right, known)
			if !slices.Equal(a, b) {
				t.Fatal(after, known, a, b)
			}
		}
	}
	if changed < 200 {
		t.Error(changed)
	}
}

// someShare returns a share of a random size.
func someShare(r *rand.Rand) api.Share {
	if r.Intn(8) == 0 {
		return longShare(r, []int{3, 100, 1 << 35}[r.Intn(3)])
	}
	return randomShare(r, between(r, 1, 6), between(r, 1, 8), between(r, 1, 9))
}

// P8.10: what is promised can be taken together, no right can have more, and younger rights change nothing.
func TestElderFirst(t *testing.T) {
	r := rand.New(rand.NewSource(810))
	full, short := 0, 0
	for range 600 {
		s := someShare(r)
		l := promises(t, s)
		if len(l) != len(s.Rights) || !isEnough(t, s, l) {
			t.Fatal(s, l)
		}
		for i, x := range s.Rights {
			next := make([]int, len(l))
			copy(next, l[:i+1])
			if !isEnough(t, s, next) {
				t.Fatal(s, next)
			}
			if next[i]++; next[i] <= x.Claim && isEnough(t, s, next) {
				t.Fatal(s, next)
			}
			if l[i] < x.Claim {
				short++
			} else {
				full++
			}
			elder := copyShare(s)
			if elder.Rights = elder.Rights[:i]; !slices.Equal(promises(t, elder), l[:i]) {
				t.Fatal(s, i)
			}
		}
	}
	if full < 300 || short < 300 {
		t.Error(full, short)
	}
}

// sum returns how much l is altogether.
func sum(l []int) int {
	out := 0
	for _, x := range l {
		out += x
	}
	return out
}

// isNowhereLess reports whether no element of a is less than that of b.
func isNowhereLess(a, b []int) bool {
	for i := range a {
		if a[i] < b[i] {
			return false
		}
	}
	return true
}

// P8.11 and P0.5: with greater supplies no right is promised less, and what was planned can still be drawn.
func TestMoreWater(t *testing.T) {
	r := rand.New(rand.NewSource(811))
	more := 0
	for range 4000 {
		s := someShare(r)
		wet := copyShare(s)
		for i := range wet.Supplies {
			if r.Intn(3) == 0 {
				wet.Supplies[i].Volume += between(r, 0, 3)
			}
		}
		dry, l := promises(t, s), promises(t, wet)
		volumes := randomVolumes(r, s)
		if !isNowhereLess(l, dry) || !isEnough(t, wet, dry) || isEnough(t, s, volumes) && !isEnough(t, wet, volumes) {
			t.Fatal(s, wet, dry, l, volumes)
		}
		plan, is, e := share.Plan(s, dry)
		if !is || e != api.OK || share.CheckPlan(wet, dry, plan) != api.OK {
			t.Fatal(s, wet, dry, plan)
		}
		if !slices.Equal(l, dry) {
			more++
		}
	}
	if more < 200 {
		t.Error(more)
	}
}

// P8.11: with greater rooms the first right, and all together, are promised no less; a younger one can be.
func TestMoreRoom(t *testing.T) {
	r := rand.New(rand.NewSource(8112))
	more, less := 0, 0
	for range 6000 {
		s := someShare(r)
		roomy := copyShare(s)
		for i := range roomy.Ponds {
			roomy.Ponds[i].Room += between(r, 0, 5)
		}
		former, l := promises(t, s), promises(t, roomy)
		volumes := randomVolumes(r, s)
		if len(l) > 0 && l[0] < former[0] || sum(l) < sum(former) || !isEnough(t, roomy, former) || isEnough(t, s, volumes) && !isEnough(t, roomy, volumes) {
			t.Fatal(s, roomy, former, l, volumes)
		}
		if sum(l) > sum(former) {
			more++
		}
		if !isNowhereLess(l, former) {
			less++
		}
	}
	if more < 100 || less < 10 {
		t.Error(more, less)
	}
}

// P8.12: less than what can be taken together can be, too; and a claim that is less leaves no less for others.
func TestLessIsClaimed(t *testing.T) {
	r := rand.New(rand.NewSource(812))
	enough, more := 0, 0
	for range 4000 {
		s := someShare(r)
		if len(s.Rights) == 0 {
			continue
		}
		volumes := promises(t, s)
		if y := randomVolumes(r, s); isEnough(t, s, y) {
			volumes = y
			enough++
		}
		for i := range volumes {
			volumes[i] = between(r, 0, volumes[i])
		}
		if !isEnough(t, s, volumes) {
			t.Fatal(s, volumes)
		}
		at := r.Intn(len(s.Rights))
		modest := copyShare(s)
		modest.Rights[at].Claim = between(r, 0, modest.Rights[at].Claim)
		former, l := promises(t, s), promises(t, modest)
		if l[at] = former[at]; !isNowhereLess(l, former) {
			t.Fatal(s, modest, former, l)
		}
		if !slices.Equal(l, former) {
			more++
		}
	}
	if enough < 100 || more < 100 {
		t.Error(enough, more)
	}
}
