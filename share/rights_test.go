package share_test

import (
	"math/rand"
	"slices"
	"testing"

	"snowline/api"
	"snowline/share"
)

// P8.2: the chapter's example.
func TestRightThatPassed(t *testing.T) {
	r := sampleRegister()
	for i, x := range []struct {
		right, day, known, holder int
		e                         api.Errno
	}{
		{7, 25, 29, 1, api.OK}, {7, 25, 30, 2, api.OK}, {7, 20, 30, 2, api.OK}, {7, 19, 30, 1, api.OK}, {7, 10, 10, 1, api.OK}, {7, 9, 30, 0, api.ErrNone}, {7, 10, 9, 0, api.ErrNone},
		{7, 34, 40, 2, api.OK}, {7, 35, 39, 2, api.OK}, {7, 35, 40, 0, api.ErrNone}, {9, 24, 50, 1, api.OK}, {9, 4, 50, 0, api.ErrNone}, {8, 24, 50, 0, api.ErrNone}, {7, api.MaxDay, api.MaxDay, 0, api.ErrNone},
		{9, api.MaxDay, api.MaxDay, 1, api.OK}, {0, 0, 0, 0, api.ErrNone}, {4095, api.MaxDay, api.MaxDay, 0, api.ErrNone},
	} {
		if holder, e := share.Holder(r, x.right, x.day, x.known); holder != x.holder || e != x.e {
			t.Error(i, holder, e)
		}
	}
	for i, x := range []struct {
		day, before, after int
		want               []int
	}{{25, 29, 30, []int{7}}, {25, 30, 29, []int{7}}, {25, 30, 30, nil}, {19, 29, 30, nil}, {25, 0, 50, []int{7}}, {26, 0, 50, []int{7, 9}}, {40, 10, 50, []int{7, 9}}, {26, 31, 33, nil}, {26, 31, 32, []int{9}}} {
		if l, e := share.Changed(r, x.day, x.before, x.after); !slices.Equal(l, x.want) || e != api.OK {
			t.Error(i, l, e)
		}
	}
}

// P8.2: rights stand with all their fields, the elder ones first, and of one age by their numbers.
func TestStanding(t *testing.T) {
	r := sampleRegister()
	seven := api.Right{No: 7, Holder: 1, Age: 10, Valley: 1, From: 10, To: 20, Claim: 5}
	nine := api.Right{No: 9, Holder: 1, Age: 5, Valley: 1, From: 10, To: 20, Claim: 6}
	passed := seven
	passed.Holder = 2
	for i, x := range []struct {
		day, known int
		want       []api.Right
	}{
		{4, 50, nil}, {50, 9, nil}, {5, 50, []api.Right{nine}}, {10, 10, []api.Right{seven}}, {10, 31, []api.Right{nine, seven}}, {20, 31, []api.Right{nine, passed}}, {22, 31, []api.Right{nine, passed}},
		{22, 32, []api.Right{passed}}, {26, 32, []api.Right{passed}}, {26, 33, []api.Right{nine, passed}}, {25, 33, []api.Right{passed}}, {35, 39, []api.Right{nine, passed}}, {35, 40, []api.Right{nine}},
	} {
		if l, e := share.Standing(r, x.day, x.known); !slices.Equal(l, x.want) || e != api.OK {
			t.Error(i, l, e)
		}
	}
	full, e := share.Standing(fullRegister(), 10, 10)
	if len(full) != 256 || e != api.OK || !slices.IsSortedFunc(full, func(a, b api.Right) int { return a.No - b.No }) {
		t.Error(full, e)
	}
}

// P8.2: a right that is suspended, or has ended, or both; and events that are known late.
func TestSuspended(t *testing.T) {
	r := api.Register{Events: []api.Event{
		grant(0, 1, 10, 3, 5), event(api.HoldE, 1, 2, 12, 3), event(api.HoldE, 2, 3, 14, 3), event(api.FreeE, 3, 4, 13, 3), event(api.EndE, 4, 5, 20, 3),
		event(api.FreeE, 5, 6, 25, 3), pass(6, 7, 30, 3, 8), pass(7, 8, 10, 3, 6), event(api.FreeE, 8, 9, 14, 3),
	}}
	for i, x := range []struct {
		day, known int
		stands     bool
	}{{11, 50, true}, {12, 50, false}, {13, 3, false}, {13, 4, true}, {14, 4, false}, {14, 8, false}, {14, 9, true}, {14, 2, false}, {20, 4, false}, {20, 9, false}, {25, 9, false}, {12, 1, true}} {
		if l, e := share.Standing(r, x.day, x.known); (len(l) == 1) != x.stands || e != api.OK {
			t.Error(i, l, e)
		}
	}
	for i, x := range []struct {
		day, known, holder int
		e                  api.Errno
	}{{12, 5, 1, api.OK}, {14, 5, 1, api.OK}, {14, 7, 1, api.OK}, {10, 8, 6, api.OK}, {25, 9, 0, api.ErrNone}, {30, 4, 1, api.OK}} {
		if holder, e := share.Holder(r, 3, x.day, x.known); holder != x.holder || e != x.e {
			t.Error(i, holder, e)
		}
	}
	for known, want := range [][]int{nil, {0}, {0, 1}, {0, 1, 2}, {0, 1, 3, 2}, {0, 1, 3, 2, 4}, {0, 1, 3, 2, 4, 5}, {0, 1, 3, 2, 4, 5, 6}, {0, 7, 1, 3, 2, 4, 5, 6}, {0, 7, 1, 3, 2, 8, 4, 5, 6}} {
		if l, e := share.History(r, 3, known); !slices.Equal(l, want) || e != api.OK {
			t.Error(known, l, e)
		}
	}
	if l, e := share.History(r, 4, 50); len(l) > 0 || e != api.OK {
		t.Error(l, e)
	}
	far := api.Register{Events: []api.Event{grant(0, api.MaxDay, api.MaxDay, 3, 5), pass(1, api.MaxDay, api.MaxDay, 3, 2)}}
	if l, e := share.History(far, 3, api.MaxDay); !slices.Equal(l, []int{0, 1}) || e != api.OK {
		t.Error(l, e)
	}
}

// P8.2: what is unknown of both days is no change, and neither is what comes to the same.
func TestChanged(t *testing.T) {
	r := api.Register{Events: []api.Event{
		grant(0, 1, 10, 9, 5), grant(1, 2, 10, 3, 5), pass(2, 3, 11, 9, 4), pass(3, 4, 12, 9, 1), event(api.HoldE, 4, 5, 15, 3), pass(5, 6, 15, 3, 7), event(api.FreeE, 6, 7, 15, 3), grant(7, 8, 10, 1, 2),
	}}
	for i, x := range []struct {
		day, before, after int
		want               []int
	}{{12, 2, 3, []int{9}}, {12, 2, 4, nil}, {11, 2, 4, []int{9}}, {15, 4, 5, []int{3}}, {15, 5, 6, nil}, {15, 4, 7, []int{3}}, {15, 0, 8, []int{1, 3, 9}}, {15, 8, 0, []int{1, 3, 9}}, {9, 0, 8, nil}, {15, 8, api.MaxDay, nil}} {
		if l, e := share.Changed(r, x.day, x.before, x.after); !slices.Equal(l, x.want) || e != api.OK {
			t.Error(i, l, e)
		}
	}
}

// randomRegister returns a valid register of a few rights, with days and days known close to each other.
func randomRegister(t *testing.T, r *rand.Rand, count int) api.Register {
	var out api.Register
	for len(out.Events) < count {
		x := api.Event{No: len(out.Events), Known: len(out.Events)/2 + r.Intn(2), Day: r.Intn(8), Kind: between(r, 1, 5), Right: r.Intn(4)}
		if x.Kind == api.GrantE || x.Kind == api.PassE {
			x.Holder = r.Intn(3)
		}
		if x.Kind == api.GrantE {
			x.Valley, x.From, x.To, x.Claim = r.Intn(2), r.Intn(3), between(r, 3, 5), r.Intn(10)
		}
		if next, e := share.Enter(out, x); e == api.OK {
			out = next
		} else if e != api.ErrOrder {
			t.Fatal(x, e)
		}
	}
	return out
}

// told tells from the chapter what has happened to a right.
func told(r api.Register, right, day, known int) []api.Event {
	var l []api.Event
	for at := range day + 1 {
		for _, x := range r.Events {
			if x.Right == right && x.Day == at && x.Known <= known {
				l = append(l, x)
			}
		}
	}
	return l
}

// last returns the last event of one of two kinds, and whether there is one.
func last(l []api.Event, a, b int) (out api.Event, is bool) {
	for _, x := range l {
		if x.Kind == a || x.Kind == b {
			out, is = x, true
		}
	}
	return out, is
}

// P8.2: registers against what the chapter says about each right.
func TestRandomRegisters(t *testing.T) {
	r := rand.New(rand.NewSource(81))
	ended, suspended, stood := 0, 0, 0
	for range 150 {
		x := randomRegister(t, r, between(r, 1, 14))
		for day := range 9 {
			for known := range 9 {
				var want []api.Right
				for age := range 9 {
					for right := range 4 {
						l := told(x, right, day, known)
						grant, isGranted := last(l, api.GrantE, api.GrantE)
						passed, _ := last(l, api.GrantE, api.PassE)
						_, hasEnded := last(l, api.EndE, api.EndE)
						held, _ := last(l, api.HoldE, api.FreeE)
						if age == 0 {
							holder, e := share.Holder(x, right, day, known)
							if isGranted && !hasEnded && (holder != passed.Holder || e != api.OK) || (!isGranted || hasEnded) && (holder != 0 || e != api.ErrNone) {
								t.Fatal(x, right, day, known, holder, e)
							}
						}
						if hasEnded {
							ended++
						} else if held.Kind == api.HoldE {
							suspended++
						} else if isGranted && grant.Day == age {
							stood++
							want = append(want, api.Right{No: right, Holder: passed.Holder, Age: age, Valley: grant.Valley, From: grant.From, To: grant.To, Claim: grant.Claim})
						}
					}
				}
				if l, e := share.Standing(x, day, known); !slices.Equal(l, want) || e != api.OK {
					t.Fatal(x, day, known, l, want, e)
				}
			}
		}
	}
	if ended < 1000 || suspended < 1000 || stood < 1000 {
		t.Error(ended, suspended, stood)
	}
}

// P8.2: histories and changes of such registers.
func TestRandomHistories(t *testing.T) {
	r := rand.New(rand.NewSource(82))
	changes := 0
	for range 150 {
		x := randomRegister(t, r, between(r, 1, 14))
		day, before, after := r.Intn(9), r.Intn(9), r.Intn(9)
		var want []int
		for right := range 4 {
			var numbers []int
			for _, y := range told(x, right, 8, after) {
				numbers = append(numbers, y.No)
			}
			if l, e := share.History(x, right, after); !slices.Equal(l, numbers) || e != api.OK {
				t.Fatal(x, right, after, l, e)
			}
			if stands(t, x, right, day, before) != stands(t, x, right, day, after) {
				want = append(want, right)
			}
		}
		if l, e := share.Changed(x, day, before, after); !slices.Equal(l, want) || e != api.OK {
			t.Fatal(x, day, before, after, l, want, e)
		}
		changes += len(want)
	}
	if changes < 50 {
		t.Error(changes)
	}
}

// stands returns a right as it stands, or one that there cannot be.
func stands(t *testing.T, r api.Register, right, day, known int) api.Right {
	t.Helper()
	l, e := share.Standing(r, day, known)
	if e != api.OK {
		t.Fatal(r, e)
	}
	for _, x := range l {
		if x.No == right {
			return x
		}
	}
	return api.Right{No: -1}
}
