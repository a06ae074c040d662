package pillow_test

import (
	"math/rand"
	"slices"
	"testing"

	"snowline/api"
	"snowline/pillow"
)

// P3.5
func TestPossible(t *testing.T) {
	for i, x := range []struct {
		p     api.Pillow
		w     []api.Span
		entry int
		want  []api.Span
	}{
		{a(), w(), 0, spans(95, 135)}, {a(), w(), 1, spans(95, 155)}, {a(), w(), 2, spans(105, 145)}, {of(5, 30, 20, 0, 100, 180, 110), w(), 0, nil},
		{of(1, 0, 5, 1, 100, 200), spans(10, 20), 1, spans(109, 121)}, {of(5, 30, 0, 0, 3), nil, 0, spans(0, 38)},
		{of(1, 4, 0, 1, 100, 100), spans(-30, -20), 1, spans(69, 85)}, {of(1, 4, 0, 1, 100, 100, 120), spans(-9, 9, 15, 20), 1, spans(99, 110)},
		{of(0, 0, 0, 1, 100, 100, 110), spans(0, 5, 0, 10), 1, spans(100, 105)}, {of(0, 0, 0, 2, 100, 50, 90), spans(-50, 50, -20, 50), 1, spans(50, 150)},
		// Either entry can be the fault: what is between both cannot be.
		{of(0, 0, 0, 1, 100, 110, 130), spans(0, 40, 0, 10), 1, spans(110, 110, 120, 130)}, {of(0, 0, 0, 1, 100, 110, 130), spans(0, 40, 0, 10), 2, spans(110, 120, 130, 130)},
		{of(0, 0, 0, 1, 100, 100, 110), spans(0, 40, 0, 3), 1, spans(100, 100, 107, 110)}, {of(0, 0, 0, 1, 100, 100, 110), spans(0, 40, 0, 3), 2, spans(100, 103, 110, 110)},
		// Spans that touch are one.
		{of(0, 0, 0, 1, 100, 100, 110), spans(0, 40, 0, 9), 1, spans(100, 110)}, {of(0, 0, 0, 1, 100, 100, 110), spans(0, 40, 0, 8), 1, spans(100, 100, 102, 110)}, {of(0, 0, 0, 1, 100, 100, 110), spans(0, 40, 0, 9), 2, spans(100, 110)},
	} {
		l, e := pillow.Possible(x.p, x.w, x.entry)
		if !slices.Equal(l, x.want) || e != api.OK {
			t.Error(i, l, e)
		}
		s, e := pillow.Hull(x.p, x.w, x.entry)
		if len(x.want) == 0 {
			if s != (api.Span{}) || e != api.ErrRefuted {
				t.Error(i, s, e)
			}
			continue
		}
		if s != span(x.want[0].Lo, x.want[len(x.want)-1].Hi) || e != api.OK {
			t.Error(i, s, e)
		}
	}
}

// P3.5
func TestSure(t *testing.T) {
	none := of(5, 30, 20, 0, 100, 180, 110)
	for i, x := range []struct {
		p     api.Pillow
		w     []api.Span
		entry int
		state int
		is    bool
		e     api.Errno
	}{
		{a(), w(), 1, 2, true, api.OK}, {a(), w(), 0, 0, false, api.OK}, {a(), w(), 2, 0, false, api.OK}, {none, w(), 0, 0, false, api.ErrRefuted}, {none, w(), 2, 0, false, api.ErrRefuted},
		{of(0, 9, 99, 1, 50, 60), spans(4, 4), 0, 1, true, api.OK}, {of(0, 9, 0, 0, 50, 50), spans(5, 5), 0, 0, false, api.OK}, {of(0, 9, 0, 0, 50, 50), spans(5, 5), 1, 1, true, api.OK},
		// A bridge may carry nothing: where the pillow can be good, it is never sure that it is.
		{of(0, 5, 0, 0, 60, 50, 40), spans(-10, -10, -10, -10), 1, 0, false, api.OK}, {of(0, 0, 0, 9, 7), nil, 0, 0, false, api.OK},
		{of(0, 0, 9, 2, 50, 50, 55), spans(1, 1, 1, 1), 1, 2, true, api.OK}, {of(0, 0, 9, 2, 50, 50, 55), spans(1, 1, 1, 1), 0, 0, false, api.OK},
	} {
		if state, is, e := pillow.Sure(x.p, x.w, x.entry); state != x.state || is != x.is || e != x.e {
			t.Error(i, state, is, e)
		}
	}
}

// P3.5: all cases together are those found by trying.
func TestTogetherByTrying(t *testing.T) {
	gaps, sure := 0, 0
	eachSmall(func(_ *rand.Rand, p api.Pillow, w []api.Span) {
		cases := remaining(p, w)
		for entry := range p.Log {
			seen, states := map[int]bool{}, map[int]bool{}
			for _, l := range cases {
				states[l[entry]] = true
				for _, x := range occurring(p, w, l)[entry] {
					seen[x] = true
				}
			}
			want := sorted(seen)
			l, e := pillow.Possible(p, w, entry)
			if e != api.OK || !slices.Equal(whole(l...), want) {
				t.Fatal(p, w, entry, l, want, e)
			}
			for i := range l {
				if i > 0 && l[i-1].Hi+1 >= l[i].Lo {
					t.Fatal(p, w, entry, l)
				}
			}
			hull, e1 := pillow.Hull(p, w, entry)
			state, is, e2 := pillow.Sure(p, w, entry)
			if len(cases) == 0 {
				if e1 != api.ErrRefuted || e2 != api.ErrRefuted || is || state != 0 {
					t.Fatal(p, w, entry, hull, e1, state, is, e2)
				}
				continue
			}
			if e1 != api.OK || e2 != api.OK || hull != span(want[0], want[len(want)-1]) || is != (len(states) == 1) || is && !states[state] || !is && state != 0 {
				t.Fatal(p, w, entry, hull, e1, state, is, e2)
			}
			if len(l) > 1 {
				gaps++
			}
			if is {
				sure++
			}
		}
	})
	if gaps < 20 || sure < 20 {
		t.Error(gaps, sure)
	}
}

// P3.10: what remains after a further entry has a beginning that remained before, and loads within those of it.
func TestFurtherEntry(t *testing.T) {
	lost := 0
	check := func(p api.Pillow, w []api.Span, cases [][]int) {
		if len(p.Log) < 2 {
			return
		}
		n := len(p.Log) - 1
		q, v := begun(p, w, n)
		before, e := pillow.Cases(q, v)
		if e != api.OK {
			return
		}
		if added, e := pillow.Add(q, p.Log[n]); !same(added, p) || e != api.OK {
			t.Fatal(p, added, e)
		}
		kept := map[int]bool{}
		for _, l := range cases {
			at := slices.IndexFunc(before, func(b []int) bool { return slices.Equal(b, l[:n]) })
			if at < 0 || !aliveOf(t, q, v, l[:n]) {
				t.Fatal(p, w, l, before)
			}
			kept[at] = true
			outer := loadsOf(t, q, v, l[:n])
			for i, s := range loadsOf(t, p, w, l)[:n] {
				if !within(outer[i], s) {
					t.Fatal(p, w, l, i, outer[i], s)
				}
			}
		}
		lost += len(before) - len(kept)
	}
	eachSmall(func(_ *rand.Rand, p api.Pillow, w []api.Span) { check(p, w, remaining(p, w)) })
	eachLong(t, func(_ *rand.Rand, p api.Pillow, w []api.Span, cases [][]int) { check(p, w, cases) })
	if lost < 100 {
		t.Error(lost)
	}
}

// truth is a pillow that has written a log, with its weather, its states and the loads that lay on it.
func truth(r *rand.Rand) (api.Pillow, []api.Span, []int, []int) {
	p := of(r.Intn(6), r.Intn(40), r.Intn(30), r.Intn(6))
	var weather []api.Span
	var states, loads []int
	load, state := []int{30, 500, api.MaxWater - 30}[r.Intn(3)], r.Intn(2)
	for i := range 1 + r.Intn(12) {
		if i > 0 {
			more := max(-load, min(api.MaxWater-load, r.Intn(21)-10))
			load += more
			weather = append(weather, span(more-r.Intn(5), more+r.Intn(5)))
			if r.Intn(3) == 0 {
				state = r.Intn(3)
			}
		}
		shown := load + r.Intn(2*p.Noise+1) - p.Noise
		if state == api.BridgeP {
			shown -= r.Intn(p.Slab + 1)
		}
		if state == api.FaultP {
			shown = r.Intn(api.MaxWater + 1)
		}
		p.Log = append(p.Log, api.Shown{Day: i, Weight: shown})
		states, loads = append(states, state), append(loads, load)
	}
	return p, weather, states, loads
}

// P3.11: the true case remains, and the true loads are possible in it and occur in Possible.
func TestTheTruth(t *testing.T) {
	r := rand.New(rand.NewSource(7))
	told, few := 0, 0
	for range 20000 {
		p, w, states, loads := truth(r)
		// The error may have taken the weight out of what a pillow shows, and the states may change where the log does not tell of it.
		if pillow.Check(p) != api.OK || !isCase(p, states) {
			continue
		}
		told++
		if pillow.CheckCase(p, states) != api.OK || !aliveOf(t, p, w, states) || pillow.CheckWitness(p, w, states, loads) != api.OK {
			t.Fatal(p, w, states, loads)
		}
		cases, e := pillow.Cases(p, w)
		if e == api.ErrLimit {
			continue
		}
		few++
		if e != api.OK || !slices.ContainsFunc(cases, func(l []int) bool { return slices.Equal(l, states) }) {
			t.Fatal(p, w, states, cases, e)
		}
		for entry, load := range loads {
			l, e := pillow.Possible(p, w, entry)
			if e != api.OK || !slices.ContainsFunc(l, func(s api.Span) bool { return s.Lo <= load && load <= s.Hi }) {
				t.Fatal(p, w, states, loads, entry, l, e)
			}
		}
	}
	if told < 1000 || few < 500 {
		t.Error(told, few)
	}
}

// P3.12: with more noise, a thicker slab, more faults or wider spans, a case that remained remains.
func TestWider(t *testing.T) {
	check := func(r *rand.Rand, p api.Pillow, w []api.Span, cases [][]int) {
		more := 1 + r.Intn(9)
		wider := []api.Pillow{p, p, p, p, p}
		wider[0].Noise += more
		wider[1].Slab += more
		wider[2].Faults += more
		wider[3].Noise, wider[3].Slab, wider[3].Faults = api.MaxWater, api.MaxWater, api.MaxLog
		wild := slices.Clone(w)
		for i := range wild {
			wild[i].Lo -= r.Intn(3)
			wild[i].Hi += r.Intn(3)
		}
		for _, l := range cases {
			inner := loadsOf(t, p, w, l)
			for i, q := range wider {
				v := w
				if i > 2 {
					v = wild
				}
				if !aliveOf(t, q, v, l) {
					t.Fatal(p, w, l, q, v)
				}
				for entry, s := range loadsOf(t, q, v, l) {
					if !within(s, inner[entry]) {
						t.Fatal(p, w, l, q, v, entry)
					}
				}
			}
		}
	}
	eachSmall(func(r *rand.Rand, p api.Pillow, w []api.Span) { check(r, p, w, remaining(p, w)) })
	eachLong(t, check)
}
