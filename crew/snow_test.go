package crew_test

import (
	"math/rand"
	"slices"
	"testing"

	"snowline/api"
	"snowline/basin"
	"snowline/crew"
)

// P7.2
func TestSafe(t *testing.T) {
	r := sample()
	for i, x := range []struct {
		s     api.Scene
		track int
		want  bool
	}{
		{oneCell(91, 900, 1000), 1, false}, {oneCell(91, 1000, 1000), 1, false}, {oneCell(91, 0, 999), 1, true}, {oneCell(91, 0, 65536), 2, true},
		{oneCell(91, 999, 999), 4, true},
	} {
		if is, e := crew.Safe(r, x.s, x.track, 91); is != x.want || e != api.OK {
			t.Error(i, is, e)
		}
	}
	for i, x := range []struct {
		cell, steep, most int
		want              bool
	}{{7, 25, 65536, true}, {8, 25, 0, true}, {8, 26, 0, false}, {0, 26, 0, false}, {7, 26, 9999, true}, {7, 26, 10000, false}, {7, 60, 285, true}, {7, 60, 286, false}} {
		r.Tracks[0].Cell, r.Tracks[0].Steep = x.cell, x.steep
		if is, e := crew.Safe(r, oneCell(3, 0, x.most), 1, 3); is != x.want || e != api.OK {
			t.Error(i, is, e)
		}
	}
	// The cell 0 is one like others.
	r.Tracks[0].Cell, r.Tracks[0].Steep = 0, 35
	s := oneCell(91, 0, 999)
	s.Basin.Cells[0].No, s.Sights[0].Cell = 0, 0
	if is, e := crew.Safe(r, s, 1, 91); !is || e != api.OK {
		t.Error(is, e)
	}
	for _, x := range [][2]int{{0, 91}, {5, 91}, {-1, 91}, {1, 90}, {1, 92}, {1, -1}} {
		if is, e := crew.Safe(sample(), oneCell(91, 0, 5), x[0], x[1]); is || e != api.ErrArg {
			t.Error(x, is, e)
		}
	}
}

// P7.2: on each day by its own water.
func TestOpen(t *testing.T) {
	s := oneCell(91, 0, 999)
	s.Days = []int{90, 91, 92}
	s.Sights = append(s.Sights, api.Sight{Cell: 7, Day: 92, Lo: 1000, Hi: 1000})
	for _, x := range []struct {
		day  int
		want []int
	}{{90, []int{2, 3, 4}}, {91, []int{1, 2, 3, 4}}, {92, []int{2, 3, 4}}} {
		if l, e := crew.Open(sample(), s, x.day); !slices.Equal(l, x.want) || e != api.OK {
			t.Error(x, l, e)
		}
	}
	if l, e := crew.Open(api.Range{}, s, 91); len(l) != 0 || e != api.OK {
		t.Error(l, e)
	}
	if l, e := crew.Open(sample(), s, 93); len(l) != 0 || e != api.ErrArg {
		t.Error(l, e)
	}
}

// P7.2, P7.11 (with a further sight no track that was safe is closed), P0.2
func TestOpenByTelling(t *testing.T) {
	rnd := rand.New(rand.NewSource(1))
	closed, opened := 0, 0
	for range 2000 {
		r, s := someRange(rnd, 4, 9, 100), someScene(rnd, 250+rnd.Intn(900))
		day := pick(rnd, s.Days)
		var want []int
		for _, x := range r.Tracks {
			is, e := crew.Safe(r, s, x.No, day)
			if e != api.OK || is != isSafe(t, s, x, day) {
				t.Fatal(r, s, x, day, is, e)
			}
			if is {
				want = append(want, x.No)
			} else if hasCell(s, x.Cell) {
				closed++
			}
		}
		open, e := crew.Open(r, s, day)
		if !slices.Equal(open, want) || e != api.OK {
			t.Fatal(r, s, day, open, e)
		}
		further, e := crew.Open(r, with(s, someSight(rnd, s, s.Basin.Deep-30)), day)
		if e == api.ErrClash {
			continue
		}
		if slices.ContainsFunc(open, func(no int) bool { return !slices.Contains(further, no) }) || e != api.OK {
			t.Fatal(r, s, day, open, further, e)
		}
		opened += len(further) - len(open)
	}
	if closed < 200 || opened < 10 {
		t.Error("too few cases:", closed, opened)
	}
}

// narrow returns a scene with two cells and one or two days, in which each water is one of a few near 1000.
func narrow(r *rand.Rand) api.Scene {
	for {
		s := api.Scene{Basin: api.Basin{Cells: []api.Cell{{No: 1, Height: 1000, Area: 2}, {No: 2, Height: 1000 + 100*r.Intn(3), Area: 5}}, Pairs: [][2]int{{0, 1}}, Gain: r.Intn(4), Slack: r.Intn(5), Deep: 2000}, Days: []int{3, 5}[r.Intn(2):]}
		for _, day := range s.Days {
			for _, c := range s.Basin.Cells {
				lo := 990 + r.Intn(10)
				s.Sights = append(s.Sights, api.Sight{No: 1 + r.Intn(9), Cell: c.No, Day: day, Lo: lo, Hi: lo + r.Intn(6)})
			}
		}
		if len(s.Days) == 2 {
			lo := r.Intn(9) - 6
			s.Changes = []api.Change{{Cell: 1 + r.Intn(2), From: 3, To: 5, Lo: lo, Hi: lo + r.Intn(5)}}
		}
		if _, e := basin.Greatest(s); e == api.OK {
			return s
		}
	}
}

// fields returns all fields that a narrow scene allows.
func fields(s api.Scene) [][][]int {
	var all [][][]int
	f := [][]int{make([]int, 2), make([]int, 2)}[:len(s.Days)]
	var try func(i int)
	try = func(i int) {
		if i == 2*len(s.Days) {
			if basin.CheckField(s, f) == api.OK {
				var copied [][]int
				for _, x := range f {
					copied = append(copied, slices.Clone(x))
				}
				all = append(all, copied)
			}
			return
		}
		for x := s.Sights[i].Lo; x <= s.Sights[i].Hi; x++ {
			f[i/2][i%2] = x
			try(i + 1)
		}
	}
	try(0)
	return all
}

// P7.8 (theorem), P0.4: on no track of a trip that is accepted the water breaks in any field that is allowed; and it does in some field on each track that is not safe, if the scene has its cell.
func TestNobodyOverASlopeThatBreaks(t *testing.T) {
	rnd := rand.New(rand.NewSource(2))
	safe, unsafe := 0, 0
	for range 400 {
		s := narrow(rnd)
		all, at := fields(s), rnd.Intn(len(s.Days))
		day := s.Days[at]
		for range 10 {
			x := api.Track{No: 1, A: 1, B: 2, Minutes: 10, Cell: 1 + rnd.Intn(3), Steep: 33 + rnd.Intn(5)}
			r := api.Range{Sites: []api.Site{{No: 1, Kind: api.HutT}, {No: 2, Kind: api.CourseT}}, Tracks: []api.Track{x}}
			breaks := x.Cell == 3
			for _, f := range all {
				breaks = breaks || f[at][x.Cell-1]*(x.Steep-25) >= 10000
			}
			want := api.OK
			if breaks {
				want = api.ErrUnsafe
				unsafe++
			} else {
				safe++
			}
			if e := crew.CheckTrip(r, s, api.Crew{Hut: 1}, day, []int{1, 1}, []int{2}); e != want {
				t.Fatal(s, day, x, e)
			}
			if is, e := crew.Safe(r, s, 1, day); is == breaks || e != api.OK {
				t.Fatal(s, day, x, is, e)
			}
			if l, is, e := crew.Trip(r, s, api.Crew{Hut: 1}, day, []int{2}); is == breaks || len(l) > 0 == breaks || e != api.OK {
				t.Fatal(s, day, x, l, is, e)
			}
		}
	}
	if safe < 500 || unsafe < 500 {
		t.Error("too few cases:", safe, unsafe)
	}
}
