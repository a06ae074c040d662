package share_test

import (
	"math/rand"
	"slices"
	"testing"

	"snowline/api"
	"snowline/share"
)

// grant returns an event by which a right of the valley 1 is granted to 1, for the days from 10 to 20.
func grant(no, known, day, right, claim int) api.Event {
	return api.Event{No: no, Known: known, Day: day, Kind: api.GrantE, Right: right, Holder: 1, Valley: 1, From: 10, To: 20, Claim: claim}
}

// pass returns an event by which a right passes to a holder.
func pass(no, known, day, right, holder int) api.Event {
	return api.Event{No: no, Known: known, Day: day, Kind: api.PassE, Right: right, Holder: holder}
}

// event returns an event of a kind that names no holder.
func event(kind, no, known, day, right int) api.Event {
	return api.Event{No: no, Known: known, Day: day, Kind: kind, Right: right}
}

// sampleRegister is the register of the chapter's example, in which the right 7 passes to 2, and a further right.
func sampleRegister() api.Register {
	return api.Register{Events: []api.Event{
		grant(0, 10, 10, 7, 5), pass(1, 30, 20, 7, 2), grant(2, 31, 5, 9, 6), event(api.HoldE, 3, 32, 22, 9), event(api.FreeE, 4, 33, 26, 9), event(api.EndE, 5, 40, 35, 7),
	}}
}

// fullRegister is a register with so many events that no more can be entered.
func fullRegister() api.Register {
	var r api.Register
	for i := range api.MaxEvents {
		r.Events = append(r.Events, grant(i, 10, 10, i, 5))
	}
	return r
}

// sampleShare is the share of the chapter's example, with a pond.
func sampleShare(room int) api.Share {
	return api.Share{
		Rights:   []api.Right{{No: 7, Valley: 1, From: 10, To: 20, Claim: 5}, {No: 8, Age: 1, Valley: 1, From: 10, To: 30, Claim: 9}},
		Supplies: []api.Supply{{Valley: 1, Day: 15, Volume: 4}, {Valley: 1, Day: 25, Volume: 8}},
		Ponds:    []api.Pond{{Valley: 1, Room: room}},
	}
}

// lateShare is the same, but the younger right has the claim 20, and may take water from the second supply only.
func lateShare(room int) api.Share {
	s := sampleShare(room)
	s.Rights[1].From, s.Rights[1].Claim = 16, 20
	return s
}

// copyShare returns s with lists of its own.
func copyShare(s api.Share) api.Share {
	return api.Share{Rights: slices.Clone(s.Rights), Supplies: slices.Clone(s.Supplies), Ponds: slices.Clone(s.Ponds)}
}

// between returns a number from least to greatest.
func between(r *rand.Rand, least, greatest int) int { return least + r.Intn(greatest-least+1) }

// randomShare returns a valid share of one or two valleys, with volumes up to most.
func randomShare(r *rand.Rand, rights, supplies, most int) api.Share {
	var s api.Share
	valleys := between(r, 1, 2)
	for i := range between(r, 0, rights) {
		from, to := between(r, 0, supplies), between(r, 0, supplies)
		s.Rights = append(s.Rights, api.Right{No: (i * 5) % 13, Holder: i, Age: 2 * i, Valley: between(r, 1, valleys), From: min(from, to), To: max(from, to), Claim: between(r, 0, most)})
	}
	left := between(r, 0, supplies)
	for valley := 1; valley <= valleys; valley++ {
		for day := range supplies {
			if left > 0 && r.Intn(3) > 0 {
				left--
				s.Supplies = append(s.Supplies, api.Supply{Valley: valley, Day: day, Volume: between(r, 0, most)})
			}
		}
		if r.Intn(3) > 0 {
			s.Ponds = append(s.Ponds, api.Pond{Valley: valley, Room: between(r, 0, most)})
		}
	}
	return s
}

// randomVolumes returns volumes for s.
func randomVolumes(r *rand.Rand, s api.Share) []int {
	l := make([]int, len(s.Rights))
	for i, x := range s.Rights {
		l[i] = between(r, 0, x.Claim)
	}
	return l
}

// longShare returns a share of a single valley with as many rights and supplies as there can be, and volumes up to most.
func longShare(r *rand.Rand, most int) api.Share {
	var s api.Share
	for i := range api.MaxRights {
		a, b := r.Intn(api.MaxSupply), r.Intn(api.MaxSupply)
		s.Rights = append(s.Rights, api.Right{No: 100 - i, Age: i, From: min(a, b), To: max(a, b), Claim: between(r, 0, most)})
	}
	for i := range api.MaxSupply {
		s.Supplies = append(s.Supplies, api.Supply{Day: i, Volume: between(r, 0, most) / (1 + r.Intn(3))})
	}
	s.Ponds = []api.Pond{{Room: between(r, 0, most)}}
	return s
}

// room tells from the chapter how much a valley can keep.
func room(s api.Share, valley int) int {
	for _, x := range s.Ponds {
		if x.Valley == valley {
			return x.Room
		}
	}
	return 0
}

// eachDraw calls do with each way in which the rights of s can draw water from the supplies from the index at on, that goes well; it ends when do returns false. The draws are in out so far; kept is what was kept for this supply.
func eachDraw(s api.Share, at, kept int, out []api.Draw, do func(l []api.Draw) bool) bool {
	if at == len(s.Supplies) {
		return do(out)
	}
	x := s.Supplies[at]
	if at == 0 || s.Supplies[at-1].Valley != x.Valley {
		kept = 0
	}
	var draw func(right, rest int, out []api.Draw) bool
	draw = func(right, rest int, out []api.Draw) bool {
		if right == len(s.Rights) {
			return eachDraw(s, at+1, min(rest, room(s, x.Valley)), out, do)
		}
		most, y := 0, s.Rights[right]
		if y.Valley == x.Valley && y.From <= x.Day && x.Day <= y.To {
			most = rest
		}
		for volume := range most + 1 {
			next := out
			if volume > 0 {
				next = append(slices.Clone(out), api.Draw{Right: y.No, Day: x.Day, Volume: volume})
			}
			if !draw(right+1, rest-volume, next) {
				return false
			}
		}
		return true
	}
	return draw(0, x.Volume+kept, out)
}

// sums returns how much each right of s draws.
func sums(s api.Share, l []api.Draw) []int {
	out := make([]int, len(s.Rights))
	for _, x := range l {
		for i, y := range s.Rights {
			if y.No == x.Right {
				out[i] += x.Volume
			}
		}
	}
	return out
}

// takeable returns all lists of volumes that can be taken together from a small share, by trying all draws. Their key is what list returns.
func takeable(s api.Share) map[string]bool {
	out := map[string]bool{}
	eachDraw(s, 0, 0, nil, func(l []api.Draw) bool {
		volumes := sums(s, l)
		for i, x := range s.Rights {
			if volumes[i] > x.Claim {
				return true
			}
		}
		out[key(volumes)] = true
		return true
	})
	return out
}

// key returns a string for small volumes.
func key(l []int) string {
	b := make([]byte, len(l))
	for i, x := range l {
		b[i] = byte(x)
	}
	return string(b)
}

// eachVolumes calls do with all volumes for a small share.
func eachVolumes(s api.Share, do func(l []int)) {
	l := make([]int, len(s.Rights))
	var next func(i int)
	next = func(i int) {
		if i == len(l) {
			do(slices.Clone(l))
			return
		}
		for x := range s.Rights[i].Claim + 1 {
			l[i] = x
			next(i + 1)
		}
	}
	next(0)
}

// promised tells from the chapter what is promised, of volumes that can be taken together.
func promised(s api.Share, can map[string]bool) []int {
	l := make([]int, len(s.Rights))
	for i, x := range s.Rights {
		for volume := range x.Claim + 1 {
			next := slices.Clone(l)
			next[i] = volume
			if can[key(next)] {
				l = next
			}
		}
	}
	return l
}

// isEnough is share.Enough of arguments that cause no error.
func isEnough(t *testing.T, s api.Share, volumes []int) bool {
	t.Helper()
	is, e := share.Enough(s, volumes)
	if e != api.OK {
		t.Fatal(s, volumes, e)
	}
	return is
}

// promises is share.Promise of a valid share.
func promises(t *testing.T, s api.Share) []int {
	t.Helper()
	l, e := share.Promise(s)
	if e != api.OK {
		t.Fatal(s, e)
	}
	return l
}
