package basin_test

import (
	"math"
	"math/rand"
	"slices"
	"testing"

	"snowline/api"
	"snowline/basin"
)

// proves reports, by the definition, whether reasons prove that the water of a cell on a day is at most, or at least, so much.
func proves(s api.Scene, cell, day, water int, most bool, l []api.Reason) bool {
	all := bounds(s)
	if len(l) > len(s.Basin.Cells)*len(s.Days) {
		return false
	}
	ground := [2]int{-1, 0}
	here := [2]int{cellAt(s, cell), slices.Index(s.Days, day)}
	at, end := ground, here
	if !most {
		at, end = here, ground
	}
	length := 0
	for _, r := range l {
		i := slices.IndexFunc(all, func(x bound) bool { return x.reason == r })
		if i < 0 || at != [2]int{all[i].from, all[i].fromDay} {
			return false
		}
		at = [2]int{all[i].to, all[i].toDay}
		length += all[i].most
	}
	return at == end && (most && length <= water || !most && -length >= water)
}

// P5.4: the chapter's example.
func TestProof(t *testing.T) {
	up := []api.Reason{{Kind: api.SightR, Index: 0, Upper: true}, {Kind: api.MoreR, Index: 0, Day: 5}}
	if l, e := basin.Proof(sample(), 2, 5, true); e != api.OK || !slices.Equal(l, up) {
		t.Errorf("Proof of the greatest water returns %v, %d", l, e)
	}
	down := []api.Reason{{Kind: api.LessR, Index: 0, Day: 5}, {Kind: api.SightR, Index: 0}}
	if l, e := basin.Proof(sample(), 2, 5, false); e != api.OK || !slices.Equal(l, down) {
		t.Errorf("Proof of the least water returns %v, %d", l, e)
	}
	free := api.Scene{Basin: sample().Basin, Days: []int{9}}
	if l, e := basin.Proof(free, 2, 9, true); e != api.OK || !slices.Equal(l, []api.Reason{{Kind: api.DeepR, Index: 2, Day: 9}}) {
		t.Errorf("Proof of the greatest water without sights returns %v, %d", l, e)
	}
	if l, e := basin.Proof(free, 1, 9, false); e != api.OK || !slices.Equal(l, []api.Reason{{Kind: api.BareR, Index: 1, Day: 9}}) {
		t.Errorf("Proof of the least water without sights returns %v, %d", l, e)
	}
	fall := []api.Reason{{Kind: api.SightR, Index: 0, Upper: true}, {Kind: api.ChangeR, Index: 0, Upper: true}}
	if l, e := basin.Proof(later(), 1, 6, true); e != api.OK || !slices.Equal(l, fall) {
		t.Errorf("Proof by a change returns %v, %d", l, e)
	}
	back := []api.Reason{{Kind: api.ChangeR, Index: 0}, {Kind: api.SightR, Index: 0}}
	if l, e := basin.Proof(later(), 1, 6, false); e != api.OK || !slices.Equal(l, back) {
		t.Errorf("Proof by a change downwards returns %v, %d", l, e)
	}
	for _, most := range []bool{true, false} {
		if l, e := basin.Proof(clashing(), 2, 5, most); e != api.ErrClash || l != nil {
			t.Errorf("Proof where no field is allowed returns %v, %d", l, e)
		}
	}
}

// P5.4
func TestCheckProof(t *testing.T) {
	sight := func(upper bool) api.Reason { return api.Reason{Kind: api.SightR, Upper: upper} }
	more, less := api.Reason{Kind: api.MoreR, Day: 5}, api.Reason{Kind: api.LessR, Day: 5}
	deep := func(no int) api.Reason { return api.Reason{Kind: api.DeepR, Index: no, Day: 5} }
	bare := func(no int) api.Reason { return api.Reason{Kind: api.BareR, Index: no, Day: 5} }
	for _, x := range []struct {
		cell, water int
		most        bool
		l           []api.Reason
		want        api.Errno
	}{
		{2, 340, true, []api.Reason{sight(true), more}, api.OK},
		{2, 341, true, []api.Reason{sight(true), more}, api.OK},
		{2, math.MaxInt, true, []api.Reason{sight(true), more}, api.OK},
		{2, 339, true, []api.Reason{sight(true), more}, api.ErrProof},
		{2, -1, true, []api.Reason{sight(true), more}, api.ErrProof},
		{2, math.MinInt, true, []api.Reason{sight(true), more}, api.ErrProof},
		{2, 200, false, []api.Reason{less, sight(false)}, api.OK},
		{2, 199, false, []api.Reason{less, sight(false)}, api.OK},
		{2, -5, false, []api.Reason{less, sight(false)}, api.OK},
		{2, math.MinInt, false, []api.Reason{less, sight(false)}, api.OK},
		{2, math.MinInt + 1, false, []api.Reason{less, sight(false)}, api.OK},
		{2, 201, false, []api.Reason{less, sight(false)}, api.ErrProof},
		{2, math.MaxInt, false, []api.Reason{less, sight(false)}, api.ErrProof},
		{2, 340, false, []api.Reason{sight(true), more}, api.ErrProof},
		{2, 340, true, []api.Reason{more, sight(true)}, api.ErrProof},
		{2, 340, true, []api.Reason{sight(false), more}, api.ErrProof},
		{1, 340, true, []api.Reason{sight(true), more}, api.ErrProof},
		{1, 900, true, []api.Reason{deep(1)}, api.OK},
		{1, 900, true, []api.Reason{deep(2), less}, api.OK},
		{1, 900, true, []api.Reason{deep(2), less, more}, api.ErrProof},
		{2, 900, true, []api.Reason{deep(1)}, api.ErrProof},
		{2, 0, false, []api.Reason{bare(2)}, api.OK},
		{1, 0, false, []api.Reason{bare(1)}, api.OK},
		{1, 0, false, []api.Reason{bare(2)}, api.ErrProof},
		{1, -130, false, []api.Reason{more, bare(2)}, api.OK},
		{1, -129, false, []api.Reason{more, bare(2)}, api.ErrProof},
		{2, 2000, true, []api.Reason{deep(2), less, more}, api.ErrProof}, // more than there are nodes, less 1
		{2, 9000, true, slices.Repeat([]api.Reason{deep(2), bare(2)}, 50), api.ErrProof},
		{2, 900, true, nil, api.ErrProof},
		{2, -900, false, nil, api.ErrProof},
		{1, 900, true, []api.Reason{{Kind: api.DeepR, Index: 1, Day: 6}}, api.ErrProof},
		{1, 900, true, []api.Reason{{Kind: api.DeepR, Index: 0, Day: 5}}, api.ErrProof},
		{2, 900, true, []api.Reason{{Kind: api.DeepR, Index: 2, Day: 6}}, api.ErrProof},
		{2, 900, true, []api.Reason{{Kind: api.DeepR, Index: 2, Day: 5, Upper: true}}, api.ErrProof},
		{2, 900, true, []api.Reason{{Kind: api.DeepR, Index: 3, Day: 5}}, api.ErrProof},
		{2, 900, true, []api.Reason{{Kind: 0, Index: 2, Day: 5}}, api.ErrProof},
		{2, 900, true, []api.Reason{{Kind: 7, Index: 2, Day: 5}}, api.ErrProof},
		{2, 900, true, []api.Reason{{Kind: api.SightR, Index: 1, Upper: true}, more}, api.ErrProof},
		{2, 900, true, []api.Reason{{Kind: api.SightR, Index: -1, Upper: true}, more}, api.ErrProof},
		{2, 900, true, []api.Reason{{Kind: api.SightR, Index: 0, Day: 5, Upper: true}, more}, api.ErrProof},
		{2, 900, true, []api.Reason{sight(true), {Kind: api.MoreR, Index: 1, Day: 5}}, api.ErrProof},
		{2, 900, true, []api.Reason{sight(true), {Kind: api.MoreR, Day: 5, Upper: true}}, api.ErrProof},
		{2, 900, true, []api.Reason{{Kind: api.ChangeR, Upper: true}}, api.ErrProof},
	} {
		if e := basin.CheckProof(sample(), x.cell, 5, x.water, x.most, x.l); e != x.want {
			t.Errorf("CheckProof of %d, most %v of the cell %d by %v returns %d", x.water, x.most, x.cell, x.l, e)
		}
	}
	// Whether a field is allowed does not matter.
	two := []api.Reason{{Kind: api.SightR, Index: 1, Upper: true}, less}
	for water, want := range map[int]api.Errno{400: api.OK, 399: api.ErrProof} {
		if e := basin.CheckProof(clashing(), 1, 5, water, true, two); e != want {
			t.Errorf("CheckProof of %d where no field is allowed returns %d", water, e)
		}
	}
}

// P5.4, P5.9: what Proof returns is accepted for what Cell returns, and nothing narrower.
func TestProofs(t *testing.T) {
	r := rand.New(rand.NewSource(6))
	for try := range 600 {
		s := small(r)
		if try < 3 {
			s, _ = large(r)
		}
		for range 4 {
			cell, day := s.Basin.Cells[r.Intn(len(s.Basin.Cells))].No, s.Days[r.Intn(len(s.Days))]
			x, e := basin.Cell(s, cell, day)
			up, f := basin.Proof(s, cell, day, true)
			down, g := basin.Proof(s, cell, day, false)
			if f != e || g != e {
				t.Fatalf("%v: Cell returns %d, Proof %d and %d", s, e, f, g)
			}
			if e != api.OK {
				continue
			}
			for _, y := range []struct {
				water int
				most  bool
				l     []api.Reason
				want  api.Errno
			}{{x.Hi, true, up, api.OK}, {x.Hi - 1, true, up, api.ErrProof}, {x.Lo, false, down, api.OK}, {x.Lo + 1, false, down, api.ErrProof}} {
				if e := basin.CheckProof(s, cell, day, y.water, y.most, y.l); e != y.want || proves(s, cell, day, y.water, y.most, y.l) != (e == api.OK) {
					t.Fatalf("%v: CheckProof of %d, most %v of %d on %d by %v returns %d", s, y.water, y.most, cell, day, y.l, e)
				}
			}
		}
	}
}

// P5.4, P5.9: all short lists of reasons.
func TestAllProofs(t *testing.T) {
	r := rand.New(rand.NewSource(7))
	accepted := 0
	for range 130 {
		s := small(r)
		if len(s.Basin.Cells)*len(s.Days) > 3 || len(s.Sights)+len(s.Changes) > 4 {
			continue
		}
		_, reasons, _ := basin.Net(s)
		cell, day := s.Basin.Cells[r.Intn(len(s.Basin.Cells))].No, s.Days[r.Intn(len(s.Days))]
		x, e := basin.Cell(s, cell, day)
		most := r.Intn(2) == 0
		var l []api.Reason
		var try func()
		try = func() {
			for water := -1; water <= s.Basin.Deep; water++ {
				is := proves(s, cell, day, water, most, l)
				f := basin.CheckProof(s, cell, day, water, most, l)
				if is != (f == api.OK) || !is && f != api.ErrProof {
					t.Fatalf("%v: CheckProof of %d, most %v of %d on %d by %v returns %d", s, water, most, cell, day, l, f)
				}
				if is && e == api.OK && (most && water < x.Hi || !most && water > x.Lo) {
					t.Fatalf("%v: %v proves %d, most %v of %d on %d, which has %v", s, l, water, most, cell, day, x)
				}
				if is {
					accepted++
				}
			}
			if len(l) <= len(s.Basin.Cells)*len(s.Days) && len(l) < 3 {
				for _, next := range reasons {
					l = append(l, next)
					try()
					l = l[:len(l)-1]
				}
			}
		}
		try()
	}
	if accepted < 400 {
		t.Errorf("only %d proofs were accepted", accepted)
	}
}
