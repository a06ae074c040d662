package crew_test

import (
	"math"
	"math/rand"
	"slices"
	"testing"

	"snowline/api"
	"snowline/crew"
)

// P7.4, with the chapter's third example.
func TestMinutes(t *testing.T) {
	for i, x := range []struct {
		c               api.Crew
		tracks, courses []int
		want            int
	}{
		{sampleCrew(), []int{3, 4, 2}, []int{2}, 540}, {sampleCrew(), nil, nil, 0}, {sampleCrew(), nil, []int{2}, 60}, {sampleCrew(), []int{1, 3, 1}, nil, 420},
		{api.Crew{Hut: 4, Load: 1}, []int{3}, nil, 81}, {api.Crew{Hut: 4, Load: 1}, []int{3, 3, 2, 4}, nil, 404}, {api.Crew{Hut: 1, Load: 200}, []int{1}, nil, 300},
		{api.Crew{Hut: 1, Work: 1440, Load: 33}, []int{1, 1, 4}, []int{2}, 1440 + 386}, {api.Crew{Hut: 1, Load: 10}, []int{3, 2}, nil, 253},
	} {
		if n, e := crew.Minutes(sample(), x.c, x.tracks, x.courses); n != x.want || e != api.OK {
			t.Error(i, n, e)
		}
	}
}

// P7.4: each of two courses takes its work, and the minutes of a walk are rounded up once.
func TestMinutesBySum(t *testing.T) {
	rnd := rand.New(rand.NewSource(5))
	for range 300 {
		r := someRange(rnd, 2+rnd.Intn(15), 1+rnd.Intn(20), 1440)
		c, courses := someCrew(rnd, r), some(rnd, ofKind(r, api.CourseT))
		courses = courses[:min(8, len(courses))]
		var tracks []int
		for range rnd.Intn(65) {
			if len(r.Tracks) > 0 {
				tracks = append(tracks, pick(rnd, r.Tracks).No)
			}
		}
		want := int(math.Ceil(float64(sumOf(r, tracks)*(100+c.Load))/100)) + c.Work*len(courses)
		if n, e := crew.Minutes(r, c, tracks, courses); n != want || e != api.OK {
			t.Fatal(r, c, tracks, courses, n, e)
		}
	}
}

// P7.4: what a crew, tracks and courses can be.
func TestTripArguments(t *testing.T) {
	r := sample()
	for no := 5; no < 14; no++ {
		r.Sites = append(r.Sites, api.Site{No: no, Kind: api.CourseT})
	}
	s := oneCell(91, 0, 999)
	for i, x := range []struct {
		c               api.Crew
		tracks, courses []int
	}{
		{api.Crew{Hut: 2}, nil, nil}, {api.Crew{Hut: 3}, nil, nil}, {api.Crew{Hut: 0}, nil, nil}, {api.Crew{Hut: math.MinInt}, nil, nil},
		{api.Crew{Hut: 1, Work: -1}, nil, nil}, {api.Crew{Hut: 1, Work: 1441}, nil, nil}, {api.Crew{Hut: 1, Load: -1}, nil, nil}, {api.Crew{Hut: 1, Load: 201}, nil, nil},
		{api.Crew{Hut: 1, Work: math.MaxInt, Load: math.MaxInt}, nil, nil},
		{api.Crew{Hut: 2}, []int{5}, nil}, {api.Crew{Hut: 2}, nil, []int{3}}, {sampleCrew(), []int{5}, []int{3}}, {api.Crew{Hut: 2}, []int{5}, []int{3}},
		{sampleCrew(), []int{5}, nil}, {sampleCrew(), []int{0}, nil}, {sampleCrew(), []int{1, 1, -1}, nil}, {sampleCrew(), slices.Repeat([]int{1}, 65), nil},
		{sampleCrew(), nil, []int{1}}, {sampleCrew(), nil, []int{3}}, {sampleCrew(), nil, []int{2, 14}}, {sampleCrew(), nil, []int{2, 2}}, {sampleCrew(), nil, []int{5, 2}},
		{sampleCrew(), nil, []int{2, 5, 6, 7, 8, 9, 10, 11, 12}},
	} {
		if n, e := crew.Minutes(r, x.c, x.tracks, x.courses); n != 0 || e != api.ErrArg {
			t.Error(i, n, e)
		}
		if e := crew.CheckTrip(r, s, x.c, 91, x.tracks, x.courses); e != api.ErrArg {
			t.Error(i, e)
		}
		if len(x.tracks) > 0 {
			continue
		}
		if l, is, e := crew.Trip(r, s, x.c, 91, x.courses); len(l) > 0 || is || e != api.ErrArg {
			t.Error(i, l, is, e)
		}
		if len(x.courses) > 0 {
			continue
		}
		if l, e := crew.Reach(r, s, x.c, 91); len(l) > 0 || e != api.ErrArg {
			t.Error(i, l, e)
		}
		if no, is, e := crew.Best(r, s, x.c, 91, []int{7}, 0); no != 0 || is || e != api.ErrArg {
			t.Error(i, no, is, e)
		}
	}
	most := api.Crew{Hut: 4, Work: 1440, Load: 200}
	if n, e := crew.Minutes(r, most, slices.Repeat([]int{1}, 64), []int{2, 5, 6, 7, 8, 9, 10, 13}); n != 64*300+8*1440 || e != api.OK {
		t.Error(n, e)
	}
}

// P7.4, with the chapter's third example.
func TestCheckTrip(t *testing.T) {
	c, free := sampleCrew(), api.Crew{Hut: 1}
	for i, x := range []struct {
		c               api.Crew
		day             int
		tracks, courses []int
		want            api.Errno
	}{
		{c, 91, []int{3, 4, 2}, []int{2}, api.OK}, {c, 91, nil, nil, api.OK}, {c, 91, []int{3, 3}, nil, api.OK}, {c, 91, []int{3, 4, 2}, nil, api.OK},
		{c, 91, []int{3, 4, 4, 3}, []int{2}, api.OK}, {free, 91, []int{3, 3, 3, 3, 3, 3, 3, 3}, nil, api.OK},
		// Such a day has 540 minutes of daylight; the one before has 538.
		{c, 23, []int{3, 4, 2}, []int{2}, api.OK}, {c, 22, []int{3, 4, 2}, []int{2}, api.ErrLimit}, {api.Crew{Hut: 1, Work: 61, Load: 50}, 23, []int{3, 4, 2}, []int{2}, api.ErrLimit},
		{api.Crew{Hut: 1, Work: 60, Load: 51}, 23, []int{3, 4, 2}, []int{2}, api.ErrLimit}, {api.Crew{Hut: 1, Work: 1440}, 91, []int{3, 4, 2}, nil, api.OK},
		{c, 91, []int{3, 4}, []int{2}, api.ErrTrip}, {c, 91, nil, []int{2}, api.ErrTrip}, {c, 91, []int{3, 3}, []int{2}, api.ErrTrip}, {c, 91, []int{3}, nil, api.ErrTrip},
		{c, 91, []int{2, 2}, nil, api.ErrTrip}, {c, 91, []int{4, 3}, nil, api.ErrTrip}, {c, 91, []int{3, 2}, nil, api.ErrTrip}, {c, 91, []int{3, 4, 2, 3}, []int{2}, api.ErrTrip},
		{c, 91, []int{1, 2}, []int{2}, api.ErrUnsafe}, {c, 91, []int{3, 4, 1}, nil, api.ErrUnsafe}, {api.Crew{Hut: 4}, 91, []int{2, 1}, []int{2}, api.ErrUnsafe},
		// What is neither a trip nor safe is no trip; what is neither safe nor quick enough is not safe.
		{c, 91, []int{1}, []int{2}, api.ErrTrip}, {c, 91, []int{1, 3}, nil, api.ErrTrip}, {api.Crew{Hut: 1, Work: 1440}, 91, []int{1, 1}, []int{2}, api.ErrUnsafe},
		{api.Crew{Hut: 1, Load: 200}, 0, []int{1, 4, 3}, []int{2}, api.ErrUnsafe}, {api.Crew{Hut: 1, Work: 1440}, 91, nil, []int{2}, api.ErrTrip},
	} {
		if e := crew.CheckTrip(sample(), oneCell(x.day, 900, 1200), x.c, x.day, x.tracks, x.courses); e != x.want {
			t.Error(i, e)
		}
	}
}

// P7.4: short tracks, and as many of them as there can be.
func TestShortTracks(t *testing.T) {
	r := sample()
	r.Tracks[2].Minutes = 1
	for i, want := range []int{0, 2, 3, 4, 5} { // rounded up: 1.01, 2.02, ..
		if n, e := crew.Minutes(r, api.Crew{Hut: 1, Load: 1}, slices.Repeat([]int{3}, i), nil); n != want || e != api.OK {
			t.Error(i, n, e)
		}
	}
	r.Tracks[2].Minutes = 10
	s, long := oneCell(182, 0, 999), slices.Repeat([]int{3}, 64)
	if e := crew.CheckTrip(r, s, api.Crew{Hut: 1, Load: 50}, 182, long, nil); e != api.OK {
		t.Error(e)
	}
	if e := crew.CheckTrip(r, s, api.Crew{Hut: 1, Load: 51}, 182, long, nil); e != api.ErrLimit {
		t.Error(e)
	}
	if e := crew.CheckTrip(r, s, api.Crew{Hut: 1}, 182, append(long, 3), nil); e != api.ErrArg {
		t.Error(e)
	}
}

// P7.4, with the chapter's third example.
func TestTrip(t *testing.T) {
	for i, x := range []struct {
		most, day int
		c         api.Crew
		courses   []int
		want      []int
		is        bool
	}{
		{1200, 91, sampleCrew(), []int{2}, []int{3, 4, 2}, true}, {1200, 23, sampleCrew(), []int{2}, []int{3, 4, 2}, true}, {1200, 22, sampleCrew(), []int{2}, nil, false},
		{999, 91, sampleCrew(), []int{2}, []int{1, 1}, true}, {1200, 91, api.Crew{Hut: 4}, []int{2}, []int{2, 2}, true}, {999, 91, api.Crew{Hut: 4}, []int{2}, []int{2, 1}, true},
		{1200, 91, api.Crew{Hut: 1, Work: 1440, Load: 200}, nil, nil, true}, {1200, 91, api.Crew{Hut: 1, Work: 720}, []int{2}, nil, false},
		{1200, 91, api.Crew{Hut: 1, Work: 400}, []int{2}, []int{3, 4, 2}, true}, {1200, 91, api.Crew{Hut: 1, Work: 401}, []int{2}, nil, false},
	} {
		if l, is, e := crew.Trip(sample(), oneCell(x.day, 0, x.most), x.c, x.day, x.courses); !slices.Equal(l, x.want) || is != x.is || e != api.OK {
			t.Error(i, l, is, e)
		}
	}
	alone := sample()
	alone.Tracks = alone.Tracks[2:3]
	if l, is, e := crew.Trip(alone, oneCell(91, 0, 5), sampleCrew(), 91, []int{2}); len(l) > 0 || is || e != api.OK {
		t.Error(l, is, e)
	}
}

// P7.4, P7.10, P7.3 (Reach), P0.4: trips against all sums of minutes that are tried.
func TestTripsByTrying(t *testing.T) {
	rnd := rand.New(rand.NewSource(6))
	trips, none, long := 0, 0, 0
	for range 400 {
		r, s := someRange(rnd, 2+rnd.Intn(9), 2+rnd.Intn(20), 1+rnd.Intn(200)), someScene(rnd, 250+rnd.Intn(900))
		day, c := pick(rnd, s.Days), someCrew(rnd, r)
		light, _ := crew.Light(day)
		safe := safeTracks(t, r, s, day)
		courses := some(rnd, ofKind(r, api.CourseT))
		walk, is := quickest(safe, c.Hut, courses, isHut(r))
		want := int(math.Ceil(float64(walk*(100+c.Load))/100)) + c.Work*len(courses)
		l, isThereOne, e := crew.Trip(r, s, c, day, courses)
		if isThereOne != (is && want <= light) || e != api.OK {
			t.Fatal(r, s, c, day, courses, l, isThereOne, e)
		}
		if !isThereOne {
			none++
			if len(l) > 0 {
				t.Fatal(r, s, c, day, courses, l)
			}
		} else {
			trips++
			long = max(long, len(l))
			if minutes, e := crew.Minutes(r, c, l, courses); minutes != want || e != api.OK {
				t.Fatal(r, s, c, day, courses, l, minutes, e)
			}
			if e := crew.CheckTrip(r, s, c, day, l, courses); e != api.OK {
				t.Fatal(r, s, c, day, courses, l, e)
			}
			fewer(t, r, s, c, day, courses, want)
		}
		var reached []int
		for _, x := range r.Sites {
			walk, is := quickest(safe, c.Hut, []int{x.No}, isHut(r))
			if is && int(math.Ceil(float64(walk*(100+c.Load))/100)) <= light {
				reached = append(reached, x.No)
			}
		}
		if l, e := crew.Reach(r, s, c, day); !slices.Equal(l, reached) || e != api.OK {
			t.Fatal(r, s, c, day, l, e)
		}
	}
	if trips < 150 || none < 50 || long < 8 {
		t.Error("too few cases:", trips, none, long)
	}
}

// fewer checks that there is a trip without each of the courses that takes no more minutes.
func fewer(t *testing.T, r api.Range, s api.Scene, c api.Crew, day int, courses []int, most int) {
	for i := range courses {
		some := slices.Delete(slices.Clone(courses), i, i+1)
		l, is, e := crew.Trip(r, s, c, day, some)
		if !is || e != api.OK {
			t.Fatal(r, s, c, day, some, l, is, e)
		}
		if minutes, e := crew.Minutes(r, c, l, some); minutes > most || e != api.OK {
			t.Fatal(r, s, c, day, some, l, minutes, e)
		}
	}
}

// P7.10: no trip that is accepted takes less, and Reach has each site that it comes to.
func TestTripsThatAreAccepted(t *testing.T) {
	rnd := rand.New(rand.NewSource(7))
	accepted, refused := 0, 0
	for range 300 {
		r, s := someRange(rnd, 2+rnd.Intn(5), 4+rnd.Intn(10), 100), someScene(rnd, 250+rnd.Intn(900))
		day, c := pick(rnd, s.Days), someCrew(rnd, r)
		reach, _ := crew.Reach(r, s, c, day)
		for range 30 {
			tracks, passed := wander(rnd, r, c.Hut)
			var courses []int
			for _, no := range ofKind(r, api.CourseT) {
				if slices.Contains(passed, no) && rnd.Intn(2) == 0 {
					courses = append(courses, no)
				}
			}
			if crew.CheckTrip(r, s, c, day, tracks, courses) != api.OK {
				refused++
				continue
			}
			accepted++
			l, is, e := crew.Trip(r, s, c, day, courses)
			least, _ := crew.Minutes(r, c, l, courses)
			if minutes, _ := crew.Minutes(r, c, tracks, courses); !is || least > minutes || e != api.OK {
				t.Fatal(r, s, c, day, tracks, courses, l, is, e)
			}
			if slices.ContainsFunc(passed, func(no int) bool { return !slices.Contains(reach, no) }) {
				t.Fatal(r, s, c, day, tracks, reach)
			}
		}
	}
	if accepted < 500 || refused < 500 {
		t.Error("too few cases:", accepted, refused)
	}
}

// wander returns a walk of at most 6 tracks from a site, and the sites that it comes to.
func wander(rnd *rand.Rand, r api.Range, from int) (l, passed []int) {
	passed = []int{from}
	for range rnd.Intn(7) {
		var next [][2]int
		for _, x := range r.Tracks {
			if x.A == from {
				next = append(next, [2]int{x.No, x.B})
			} else if x.B == from {
				next = append(next, [2]int{x.No, x.A})
			}
		}
		if len(next) == 0 {
			break
		}
		x := pick(rnd, next)
		l, passed, from = append(l, x[0]), append(passed, x[1]), x[1]
	}
	return l, passed
}

// P7.4, P7.10: trips to as many courses as there can be, on many quick tracks.
func TestTripsToManyCourses(t *testing.T) {
	rnd := rand.New(rand.NewSource(8))
	trips, none := 0, 0
	for range 20 {
		r, s := largest(rnd)
		r.Tracks = r.Tracks[:16+rnd.Intn(33)]
		day := pick(rnd, s.Days)
		c := api.Crew{Hut: rnd.Intn(2), Work: rnd.Intn(120)}
		courses := ofKind(r, api.CourseT)[rnd.Intn(6):][:8]
		safe := safeTracks(t, r, s, day)
		walk, is := quickest(safe, c.Hut, courses, isHut(r))
		light, _ := crew.Light(day)
		l, isThereOne, e := crew.Trip(r, s, c, day, courses)
		if isThereOne != (is && walk+8*c.Work <= light) || e != api.OK {
			t.Fatal(r, c, day, courses, l, isThereOne, e)
		}
		if !isThereOne {
			none++
			continue
		}
		trips++
		if e := crew.CheckTrip(r, s, c, day, l, courses); e != api.OK || sumOf(r, l) != walk {
			t.Fatal(r, c, day, courses, l, e)
		}
	}
	if trips < 5 || none < 5 {
		t.Error("too few cases:", trips, none)
	}
}

// P7.4: on a chain of sites each track is gone there and back.
func TestTripAlongAChain(t *testing.T) {
	r := api.Range{Sites: []api.Site{{No: 0, Kind: api.HutT}}}
	var want []int
	for i := 1; i < 16; i++ {
		r.Sites = append(r.Sites, api.Site{No: i, Kind: api.CourseT})
		r.Tracks = append(r.Tracks, api.Track{No: i, A: i, B: i - 1, Minutes: 32})
		want = append(want, i)
	}
	for i := 15; i > 0; i-- {
		want = append(want, i)
	}
	s := oneCell(182, 0, 0)
	if l, is, e := crew.Trip(r, s, api.Crew{}, 182, []int{1, 3, 5, 6, 7, 8, 9, 15}); !slices.Equal(l, want) || !is || e != api.OK {
		t.Error(l, is, e)
	}
	if l, is, e := crew.Trip(r, s, api.Crew{Load: 1}, 182, []int{15}); len(l) > 0 || is || e != api.OK {
		t.Error(l, is, e)
	}
}
