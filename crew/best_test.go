package crew_test

import (
	"math/rand"
	"slices"
	"testing"

	"snowline/api"
	"snowline/crew"
)

// twoCourses is the range of the third example with the course 6, where the cell 9 is measured, 30 minutes from the hut 1.
func twoCourses() api.Range {
	r := sample()
	r.Sites = append(r.Sites, api.Site{No: 6, Kind: api.CourseT, Cell: 9})
	r.Tracks = append(r.Tracks, api.Track{No: 9, A: 1, B: 6, Minutes: 30})
	return r
}

// P7.6
func TestBestAndNext(t *testing.T) {
	free, slow := api.Crew{Hut: 1}, api.Crew{Hut: 1, Work: 521}
	both, other := twoCourses(), twoCourses()
	both.Sites[1].Cell = 9
	other.Sites[1].Cell = 8
	passes := twoCourses()
	passes.Sites[4] = api.Site{No: 6, Kind: api.PassT}
	zero := above()
	zero.Basin.Cells[0].No, zero.Sights[0].Cell = 0, 0
	for i, x := range []struct {
		r     api.Range
		s     api.Scene
		c     api.Crew
		cells []int
		width int
		best  int
		next  []int
		is    bool
	}{
		// To measure the cell 7 leaves 2 * 30 of both; to measure the cell 9 leaves 10 * 30, but nothing of the cell 9 alone.
		{twoCourses(), above(), free, []int{7, 9}, 0, 2, []int{1, 1}, true},
		{twoCourses(), above(), free, []int{9}, 0, 6, []int{9, 9}, true},
		{twoCourses(), above(), free, []int{7}, 20, 2, []int{1, 1}, true},
		// The track 1 takes 200 minutes there and back: there is no time left to work at the course 2.
		{twoCourses(), above(), slow, []int{7, 9}, 0, 6, []int{9, 9}, true},
		{twoCourses(), above(), api.Crew{Hut: 4, Work: 500}, []int{7, 9}, 0, 0, nil, false},
		// Of several courses for the same cell it is that with the least No.
		{both, above(), free, []int{9}, 0, 2, []int{1, 1}, true},
		{other, above(), free, []int{7, 9}, 0, 6, []int{9, 9}, true},
		{api.Range{Sites: twoCourses().Sites}, above(), free, []int{7, 9}, 0, 0, nil, false},
		{sample(), oneCell(91, 0, 999), free, []int{7}, 0, 0, nil, false}, // made possible below
		// A pass is no course, though its Cell is 0.
		{passes, zero, free, []int{0, 9}, 0, 0, nil, false},
	} {
		if i == 8 {
			x.s.Sights[0].Lo = 990
			x.best, x.next, x.is = 2, []int{1, 1}, true
		}
		if no, is, e := crew.Best(x.r, x.s, x.c, 91, x.cells, x.width); no != x.best || is != x.is || e != api.OK {
			t.Error(i, no, is, e)
		}
		if l, is, e := crew.Next(x.r, x.s, x.c, 91, x.cells, x.width); !slices.Equal(l, x.next) || is != x.is || e != api.OK {
			t.Error(i, l, is, e)
		}
	}
}

// P7.6: the errors of the courses that can be visited alone.
func TestBestErrors(t *testing.T) {
	free := api.Crew{Hut: 1}
	wide := above()
	wide.Basin.Pairs, wide.Basin.Deep = nil, 300
	far := twoCourses()
	far.Tracks[4].Minutes = 361
	for i, x := range []struct {
		r     api.Range
		s     api.Scene
		cells []int
		width int
		want  api.Errno
	}{
		{twoCourses(), above(), []int{7}, 38, api.OK}, {twoCourses(), above(), []int{7}, 39, api.ErrLimit}, {twoCourses(), wide, []int{7}, 0, api.ErrLimit},
		{far, wide, []int{7}, 0, api.OK}, {far, above(), []int{7}, 68, api.OK}, {far, above(), []int{7}, 69, api.ErrLimit}, {api.Range{Sites: far.Sites}, wide, []int{7}, 65536, api.OK},
		{far, wide, nil, 0, api.ErrArg}, {far, wide, []int{8}, 0, api.ErrArg}, {far, wide, []int{9, 7}, 0, api.ErrArg}, {far, wide, []int{7}, -1, api.ErrArg},
		{far, wide, []int{7}, 65537, api.ErrArg}, {api.Range{Sites: far.Sites}, noField(), []int{7}, 0, api.ErrClash},
	} {
		no, is, e := crew.Best(x.r, x.s, free, 91, x.cells, x.width)
		if e != x.want || e != api.OK && (no != 0 || is) {
			t.Error(i, no, is, e)
		}
		l, is, e := crew.Next(x.r, x.s, free, 91, x.cells, x.width)
		if e != x.want || e != api.OK && (len(l) > 0 || is) {
			t.Error(i, l, is, e)
		}
	}
}

// P7.6, P7.12: against all courses, one after the other.
func TestBestByTelling(t *testing.T) {
	rnd := rand.New(rand.NewSource(11))
	found, none, limits := 0, 0, 0
	for range 800 {
		r, s := someRange(rnd, 2+rnd.Intn(9), 2+rnd.Intn(15), 1+rnd.Intn(300)), someScene(rnd, pick(rnd, []int{40, 300, 600}))
		day, c, cells, width := pick(rnd, s.Days), someCrew(rnd, r), someCells(rnd, s), rnd.Intn(2)*rnd.Intn(30)
		best, least, want := 0, -1, api.OK
		for _, x := range r.Sites {
			if x.Kind != api.CourseT || !hasCell(s, x.Cell) {
				continue
			}
			if _, is, _ := crew.Trip(r, s, c, day, []int{x.No}); !is {
				continue
			}
			worst, e := crew.Worst(s, cells, day, x.Cell, width)
			if e != api.OK {
				best, least, want = 0, -1, e
				limits++
				break
			}
			if least < 0 || worst < least {
				best, least = x.No, worst
			}
		}
		no, is, e := crew.Best(r, s, c, day, cells, width)
		if no != best || is != (least >= 0) || e != want {
			t.Fatal(r, s, c, day, cells, width, no, is, e)
		}
		l, isNext, e := crew.Next(r, s, c, day, cells, width)
		if isNext != is || e != want || !is && len(l) > 0 {
			t.Fatal(r, s, c, day, cells, width, l, isNext, e)
		}
		if !is {
			none++
			continue
		}
		found++
		if e := crew.CheckTrip(r, s, c, day, l, []int{no}); e != api.OK {
			t.Fatal(r, s, c, day, l, no, e)
		}
	}
	if found < 100 || none < 100 || limits < 50 {
		t.Error("too few cases:", found, none, limits)
	}
}

// P7.12: as large as it can be.
func TestBestOfTheLargest(t *testing.T) {
	r, s := largest(rand.New(rand.NewSource(12)))
	c, cells := api.Crew{Hut: 1, Work: 30}, []int{0, 1, 2, 3, 4, 5, 6, 7, 8, 9, 10, 11}
	best, is, e := crew.Best(r, s, c, 180, cells, 5)
	if !is || e != api.OK {
		t.Fatal(best, is, e)
	}
	at := slices.IndexFunc(r.Sites, func(x api.Site) bool { return x.No == best })
	least, e := crew.Worst(s, cells, 180, r.Sites[at].Cell, 5)
	if e != api.OK {
		t.Fatal(e)
	}
	for _, x := range r.Sites[2 : len(r.Sites)-2] {
		if _, is, _ := crew.Trip(r, s, c, 180, []int{x.No}); !is {
			continue
		}
		if worst, e := crew.Worst(s, cells, 180, x.Cell, 5); worst < least || e != api.OK {
			t.Error(x, worst, least, e)
		}
	}
}
