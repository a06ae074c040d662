package basin_test

import (
	"math/rand"
	"slices"
	"testing"

	"snowline/api"
	"snowline/basin"
)

// P5.6: the chapter's example.
func TestClash(t *testing.T) {
	if l, is, e := basin.Clash(clashing()); !slices.Equal(l, []int{7, 9}) || !is || e != api.OK {
		t.Errorf("Clash returns %v, %v, %d", l, is, e)
	}
	if l, is, e := basin.Clash(noWay()); len(l) != 0 || !is || e != api.OK {
		t.Errorf("Clash where changes contradict each other returns %v, %v, %d", l, is, e)
	}
	for _, s := range []api.Scene{sample(), later()} {
		if l, is, e := basin.Clash(s); len(l) != 0 || is || e != api.OK {
			t.Errorf("Clash where there is none returns %v, %v, %d", l, is, e)
		}
	}
	// Two parts of one sheet contradict each other.
	s := with(sample(), api.Sight{No: 9, Cell: 2, Day: 5, Lo: 300, Hi: 300}, api.Sight{No: 3, Cell: 2, Day: 5, Lo: 0, Hi: 0}, api.Sight{No: 3, Cell: 1, Day: 5, Lo: 1, Hi: 1})
	if l, is, e := basin.Clash(s); !is || e != api.OK || basin.CheckClash(s, l) != api.OK {
		t.Errorf("Clash returns %v, %v, %d", l, is, e)
	}
	for _, x := range []struct {
		l    []int
		want api.Errno
	}{{[]int{3}, api.OK}, {[]int{3, 7}, api.ErrProof}, {[]int{3, 9}, api.ErrProof}, {[]int{7, 9}, api.ErrProof}, {nil, api.ErrProof}} {
		if e := basin.CheckClash(s, x.l); e != x.want {
			t.Errorf("CheckClash of %v returns %d", x.l, e)
		}
	}
}

// P5.6
func TestCheckClash(t *testing.T) {
	s := with(clashing(), api.Sight{No: 8, Cell: 1, Day: 5, Lo: 0, Hi: 500}, api.Sight{No: 10, Cell: 1, Day: 5, Lo: 208, Hi: 209})
	for _, x := range []struct {
		l    []int
		want api.Errno
	}{
		{[]int{7, 9}, api.OK},
		{[]int{9, 10}, api.OK},
		{[]int{7, 9, 10}, api.ErrProof},
		{[]int{7, 8, 9}, api.ErrProof},
		{[]int{7, 9, 11}, api.ErrProof},
		{[]int{-4, 7, 9}, api.ErrProof},
		{[]int{7, 9, 9999}, api.ErrProof},
		{[]int{7}, api.ErrProof},
		{[]int{7, 10}, api.ErrProof},
		{[]int{99}, api.ErrProof},
		{nil, api.ErrProof},
		{[]int{}, api.ErrProof},
		{days(100000), api.ErrProof},
		{[]int{9, 7}, api.ErrArg},
		{[]int{7, 7, 9}, api.ErrArg},
		{[]int{7, 9, 9}, api.ErrArg},
	} {
		if e := basin.CheckClash(s, x.l); e != x.want {
			t.Errorf("CheckClash of %v returns %d", x.l[:min(len(x.l), 9)], e)
		}
	}
	for _, x := range []struct {
		l    []int
		want api.Errno
	}{{nil, api.OK}, {[]int{}, api.OK}, {[]int{7}, api.ErrProof}, {[]int{99}, api.ErrProof}, {[]int{99, 99}, api.ErrArg}} {
		if e := basin.CheckClash(noWay(), x.l); e != x.want {
			t.Errorf("CheckClash of %v where changes contradict each other returns %d", x.l, e)
		}
	}
	for _, l := range [][]int{nil, {7}} {
		if e := basin.CheckClash(later(), l); e != api.ErrProof {
			t.Errorf("CheckClash of %v where nothing contradicts returns %d", l, e)
		}
	}
}

// P5.6, P5.11: small scenes, with all lists of numbers.
func TestClashByTrying(t *testing.T) {
	r := rand.New(rand.NewSource(11))
	found := map[int]int{}
	for range 500 {
		s := small(r)
		for range r.Intn(4) {
			s.Sights = append(s.Sights, someSight(r, s, 5, r.Intn(2)))
		}
		contradicts := func(l []int) bool { return len(tried(alone(s, l))) == 0 }
		l, is, e := basin.Clash(s)
		nos := numbers(s)
		if e != api.OK || is != contradicts(nos) || !is && len(l) > 0 || is && basin.CheckClash(s, l) != api.OK {
			t.Fatalf("%v: Clash returns %v, %v, %d", s, l, is, e)
		}
		if is {
			found[len(l)]++
		}
		single := len(nos) == len(s.Sights)
		if single && len(l) > 2 {
			t.Fatalf("%v: Clash returns %v", s, l)
		}
		for _, l := range subsets(append(nos, 5)) {
			want := contradicts(l)
			for i := range l {
				want = want && !contradicts(slices.Concat(l[:i], l[i+1:]))
			}
			if e := basin.CheckClash(s, l); want != (e == api.OK) || !want && e != api.ErrProof {
				t.Fatalf("%v: CheckClash of %v returns %d", s, l, e)
			}
		}
	}
	if found[0] < 10 || found[1] < 50 || found[2] < 50 {
		t.Errorf("too few contradictions, by how many are named: %v", found)
	}
}

// P5.6, P5.7, P5.11: scenes of the greatest size.
func TestLargeSheets(t *testing.T) {
	r := rand.New(rand.NewSource(12))
	for range 4 {
		s, f := large(r)
		if l, is, e := basin.Clash(s); len(l) != 0 || is || e != api.OK {
			t.Fatalf("Clash returns %v, %v, %d", l, is, e)
		}
		cells := someCells(r, s)
		day := s.Days[r.Intn(len(s.Days))]
		l, e := basin.Rests(s, cells, day)
		if e != api.OK || basin.CheckRests(s, cells, day, l) != api.OK || len(l) > 2*len(cells) {
			t.Fatalf("Rests of %v on %d returns %v, %d", cells, day, l, e)
		}
		if e := basin.CheckRests(s, cells, day, numbers(s)); e != api.ErrProof {
			t.Fatalf("CheckRests of all numbers returns %d", e)
		}
		c, d := r.Intn(len(s.Basin.Cells)), r.Intn(len(s.Days))
		s.Sights[255] = api.Sight{No: 8191, Cell: 3 * c, Day: s.Days[d], Lo: f[d][c] + 1500, Hi: f[d][c] + 1500}
		l, is, e := basin.Clash(s)
		if len(l) > 2 || !is || e != api.OK || basin.CheckClash(s, l) != api.OK || !slices.Contains(l, 8191) {
			t.Fatalf("Clash returns %v, %v, %d", l, is, e)
		}
	}
}

// several is a scene whose bounds rest on several sheets.
func several() api.Scene {
	return with(later(), api.Sight{No: 8, Cell: 1, Day: 5, Lo: 100, Hi: 300}, api.Sight{No: 9, Cell: 2, Day: 5, Lo: 0, Hi: 250}, api.Sight{No: 9, Cell: 1, Day: 6, Lo: 0, Hi: 900}, api.Sight{No: 10, Cell: 2, Day: 5, Lo: 5, Hi: 250})
}

// P5.7
func TestRests(t *testing.T) {
	for _, x := range []struct {
		cells []int
		day   int
		want  [][]int
	}{
		{[]int{1}, 5, [][]int{{7}}},
		{[]int{1}, 6, [][]int{{7}}},
		{[]int{2}, 6, [][]int{{7, 9}, {7, 10}}},
		{[]int{1, 2}, 5, [][]int{{7, 9}, {7, 10}}},
	} {
		l, e := basin.Rests(several(), x.cells, x.day)
		if e != api.OK || !slices.ContainsFunc(x.want, func(m []int) bool { return slices.Equal(l, m) }) {
			t.Errorf("Rests of %v on %d returns %v, %d", x.cells, x.day, l, e)
		}
		for _, l := range subsets([]int{6, 7, 8, 9, 10}) {
			want := api.ErrProof
			if slices.ContainsFunc(x.want, func(m []int) bool { return slices.Equal(l, m) }) {
				want = api.OK
			}
			if e := basin.CheckRests(several(), x.cells, x.day, l); e != want {
				t.Errorf("CheckRests of %v for %v on %d returns %d", l, x.cells, x.day, e)
			}
		}
	}
	free := api.Scene{Basin: sample().Basin, Days: []int{3}, Sights: []api.Sight{{No: 4, Cell: 1, Day: 3, Hi: 900}}}
	if l, e := basin.Rests(free, []int{1, 2}, 3); len(l) != 0 || e != api.OK {
		t.Errorf("Rests of what is known anyway returns %v, %d", l, e)
	}
	for _, x := range []struct {
		l    []int
		want api.Errno
	}{{nil, api.OK}, {[]int{4}, api.ErrProof}, {[]int{-1}, api.ErrProof}, {[]int{4, 4}, api.ErrArg}} {
		if e := basin.CheckRests(free, []int{1, 2}, 3, x.l); e != x.want {
			t.Errorf("CheckRests of %v for what is known anyway returns %d", x.l, e)
		}
	}
}

// P5.7
func TestCheckRestsErrors(t *testing.T) {
	for _, l := range [][]int{{9, 7}, {7, 7}, {7, 9, 9}, {0, -1}} {
		for _, s := range []api.Scene{several(), noWay()} {
			if e := basin.CheckRests(s, []int{1}, 6, l); e != api.ErrArg {
				t.Errorf("CheckRests of %v returns %d", l, e)
			}
		}
	}
	for _, l := range [][]int{nil, {7}, {7, 9}, days(9999)} {
		if e := basin.CheckRests(clashing(), []int{1}, 5, l); e != api.ErrClash {
			t.Errorf("CheckRests where no field is allowed returns %d", e)
		}
		if got, e := basin.Rests(clashing(), []int{1}, 5); got != nil || e != api.ErrClash {
			t.Errorf("Rests where no field is allowed returns %v, %d", got, e)
		}
	}
	if e := basin.CheckRests(several(), []int{2}, 6, days(100000)); e != api.ErrProof {
		t.Errorf("CheckRests of far too many numbers returns %d", e)
	}
}

// P5.7: small scenes, with all lists of numbers.
func TestRestsByTrying(t *testing.T) {
	r := rand.New(rand.NewSource(13))
	found := map[int]int{}
	for range 3000 {
		s := small(r)
		for range r.Intn(3) {
			s.Sights = append(s.Sights, someSight(r, s, 5, s.Basin.Deep))
		}
		all := tried(s)
		cells, day := someCells(r, s), s.Days[r.Intn(len(s.Days))]
		l, e := basin.Rests(s, cells, day)
		if isClash(t, s, all, e) {
			continue
		}
		spans := func(l []int) []api.Span {
			var spans []api.Span
			some := tried(alone(s, l))
			for _, no := range cells {
				spans = append(spans, spanOf(some, func(f [][]int) int { return f[slices.Index(s.Days, day)][cellAt(s, no)] }))
			}
			return spans
		}
		if e := basin.CheckRests(s, cells, day, l); e != api.OK {
			t.Fatalf("%v: CheckRests of %v for %v on %d returns %d", s, l, cells, day, e)
		}
		found[len(l)]++
		whole := spans(numbers(s))
		for _, l := range subsets(numbers(s)) {
			want := slices.Equal(spans(l), whole)
			for i := range l {
				want = want && !slices.Equal(spans(slices.Concat(l[:i], l[i+1:])), whole)
			}
			if e := basin.CheckRests(s, cells, day, l); want != (e == api.OK) || !want && e != api.ErrProof {
				t.Fatalf("%v: CheckRests of %v for %v on %d returns %d", s, l, cells, day, e)
			}
		}
	}
	if found[0] < 50 || found[1] < 100 || found[2] < 50 || found[3] < 5 {
		t.Errorf("too few scenes, by how many numbers their bounds rest on: %v", found)
	}
}
