package crew_test

import (
	"math/rand"
	"slices"
	"testing"

	"snowline/api"
	"snowline/basin"
)

// sample is the range of the chapter's third example.
func sample() api.Range {
	return api.Range{
		Sites: []api.Site{{No: 1, Kind: api.HutT}, {No: 2, Kind: api.CourseT, Cell: 7}, {No: 3, Kind: api.PassT}, {No: 4, Kind: api.HutT}},
		Tracks: []api.Track{
			{No: 1, A: 1, B: 2, Minutes: 100, Cell: 7, Steep: 35}, {No: 2, A: 2, B: 4, Minutes: 150},
			{No: 3, A: 1, B: 3, Minutes: 80}, {No: 4, A: 3, B: 2, Minutes: 90},
		},
	}
}

// sampleCrew is the crew of that example.
func sampleCrew() api.Crew { return api.Crew{Hut: 1, Work: 60, Load: 50} }

// oneCell is a scene in which the cell 7, of area 10, has from lo to hi millimetres on a day.
func oneCell(day, lo, hi int) api.Scene {
	return api.Scene{
		Basin:  api.Basin{Cells: []api.Cell{{No: 7, Height: 2000, Area: 10}}, Deep: api.MaxWater},
		Days:   []int{day},
		Sights: []api.Sight{{No: 1, Cell: 7, Day: day, Lo: lo, Hi: hi}},
	}
}

// with returns s with further sights, unchecked.
func with(s api.Scene, l ...api.Sight) api.Scene {
	s.Sights = slices.Concat(s.Sights, l)
	return s
}

// noField is a scene on the day 91 that allows no field.
func noField() api.Scene {
	return with(oneCell(91, 900, 1200), api.Sight{No: 2, Cell: 7, Day: 91, Lo: 1201, Hi: 1300})
}

// hasCell reports whether s has a cell with a No.
func hasCell(s api.Scene, no int) bool {
	return slices.ContainsFunc(s.Basin.Cells, func(c api.Cell) bool { return c.No == no })
}

// isSafe tells from the chapter whether a track is safe.
func isSafe(t *testing.T, s api.Scene, x api.Track, day int) bool {
	if x.Steep <= 25 {
		return true
	}
	if !hasCell(s, x.Cell) {
		return false
	}
	water, e := basin.Cell(s, x.Cell, day)
	if e != api.OK {
		t.Fatal(e)
	}
	return water.Hi*(x.Steep-25) < 10000
}

// safeTracks returns those tracks of r that are safe.
func safeTracks(t *testing.T, r api.Range, s api.Scene, day int) []api.Track {
	return slices.DeleteFunc(slices.Clone(r.Tracks), func(x api.Track) bool { return !isSafe(t, s, x, day) })
}

// longest is more than the minutes of a walk over safe tracks that is looked for.
const longest = 1500

// quickest returns the least sum of Minutes, less than longest, of a walk over tracks from a site that comes to some sites and ends at one for which isEnd says so; and whether there is such a walk. It tries all sums.
func quickest(l []api.Track, from int, pass []int, isEnd func(no int) bool) (int, bool) {
	type state struct{ site, passed int }
	passing := func(x state) state {
		for i, no := range pass {
			if x.site == no {
				x.passed |= 1 << i
			}
		}
		return x
	}
	reached := make([]map[state]bool, longest)
	reached[0] = map[state]bool{passing(state{from, 0}): true}
	seen := map[state]bool{}
	for minutes := range reached {
		for x := range reached[minutes] {
			if x.passed == 1<<len(pass)-1 && isEnd(x.site) {
				return minutes, true
			}
			if seen[x] { // It was reached with less.
				continue
			}
			seen[x] = true
			for _, t := range l {
				next, then := -1, minutes+t.Minutes
				if t.A == x.site {
					next = t.B
				} else if t.B == x.site {
					next = t.A
				}
				if next < 0 || then >= longest {
					continue
				}
				if reached[then] == nil {
					reached[then] = map[state]bool{}
				}
				reached[then][passing(state{next, x.passed})] = true
			}
		}
	}
	return 0, false
}

// ends reports where a walk from a site leads, and whether it is one.
func ends(r api.Range, from int, l []int) (int, bool) {
	for _, no := range l {
		x, is := trackOf(r, no)
		switch {
		case is && x.A == from:
			from = x.B
		case is && x.B == from:
			from = x.A
		default:
			return 0, false
		}
	}
	return from, true
}

// trackOf returns the track with a No, and whether there is one.
func trackOf(r api.Range, no int) (api.Track, bool) {
	for _, x := range r.Tracks {
		if x.No == no {
			return x, true
		}
	}
	return api.Track{}, false
}

// sumOf returns the sum of the Minutes of tracks.
func sumOf(r api.Range, l []int) int {
	sum := 0
	for _, no := range l {
		x, _ := trackOf(r, no)
		sum += x.Minutes
	}
	return sum
}

// ofKind returns the No of the sites of a kind.
func ofKind(r api.Range, kind int) []int {
	var l []int
	for _, x := range r.Sites {
		if x.Kind == kind {
			l = append(l, x.No)
		}
	}
	return l
}

// isHut returns a function that reports whether a No is that of a hut.
func isHut(r api.Range) func(no int) bool {
	return func(no int) bool { return slices.Contains(ofKind(r, api.HutT), no) }
}

// pick returns an element of l.
func pick[E any](r *rand.Rand, l []E) E { return l[r.Intn(len(l))] }

// some returns some elements of l, in their order.
func some(r *rand.Rand, l []int) []int {
	var few []int
	for _, x := range l {
		if r.Intn(2) == 0 {
			few = append(few, x)
		}
	}
	return few
}

// someRange returns a range of at least one hut with so many sites and tracks, that take at most so many minutes.
func someRange(r *rand.Rand, sites, tracks, minutes int) api.Range {
	var x api.Range
	no := r.Intn(3)
	for range sites {
		site := api.Site{No: no, Kind: 1 + r.Intn(3)}
		if site.Kind == api.CourseT {
			site.Cell = r.Intn(5)
		}
		x.Sites = append(x.Sites, site)
		no += 1 + r.Intn(3)
	}
	x.Sites[r.Intn(sites)] = api.Site{No: -1, Kind: api.HutT}
	for i, ahead := 0, -1; i < sites; i++ {
		if x.Sites[i].No < 0 {
			x.Sites[i].No = ahead + 1
		}
		ahead = x.Sites[i].No
	}
	no = r.Intn(3)
	for range tracks {
		t := api.Track{No: no, A: pick(r, x.Sites).No, B: pick(r, x.Sites).No, Minutes: 1 + r.Intn(minutes)}
		if r.Intn(2) == 0 {
			t.Cell, t.Steep = r.Intn(5), 1+r.Intn(60)
		}
		if t.A != t.B {
			x.Tracks = append(x.Tracks, t)
		}
		no += 1 + r.Intn(3)
	}
	return x
}

// someCrew returns a crew of x.
func someCrew(r *rand.Rand, x api.Range) api.Crew {
	return api.Crew{Hut: pick(r, ofKind(x, api.HutT)), Work: r.Intn(2) * r.Intn(200), Load: r.Intn(2) * r.Intn(201)}
}

// someScene returns a scene with some of the cells 0 to 4, in which some waters are about as great as base, and which allows a field.
func someScene(r *rand.Rand, base int) api.Scene {
	for {
		s := api.Scene{Basin: api.Basin{Gain: r.Intn(3) * r.Intn(10), Slack: r.Intn(40), Deep: min(api.MaxWater, base+r.Intn(60))}}
		day := r.Intn(400)
		for range 1 + r.Intn(3) {
			s.Days = append(s.Days, day)
			day += 1 + r.Intn(3)
		}
		nos := some(r, []int{0, 1, 2, 3, 4})
		for _, no := range nos {
			c := api.Cell{No: no, Height: 1000 + 100*r.Intn(4), Aspect: r.Intn(3), Area: 1 + r.Intn(20)}
			for i, other := range s.Basin.Cells {
				p := [2]int{i, len(s.Basin.Cells)}
				if other.Height > c.Height {
					p[0], p[1] = p[1], p[0]
				}
				if r.Intn(2) == 0 {
					s.Basin.Pairs = append(s.Basin.Pairs, p)
				}
			}
			s.Basin.Cells = append(s.Basin.Cells, c)
		}
		if len(nos) == 0 {
			continue
		}
		for range r.Intn(2 * len(nos) * len(s.Days)) {
			s.Sights = append(s.Sights, someSight(r, s, base))
		}
		for range r.Intn(3) {
			at := r.Intn(len(s.Days))
			lo := r.Intn(41) - 30
			for _, to := range s.Days[at+1:] {
				s.Changes = append(s.Changes, api.Change{Cell: pick(r, nos), From: s.Days[at], To: to, Lo: lo, Hi: lo + r.Intn(40)})
			}
		}
		if _, e := basin.Greatest(s); e == api.OK {
			return s
		}
	}
}

// someSight returns a sight of s of some water about as great as base.
func someSight(r *rand.Rand, s api.Scene, base int) api.Sight {
	lo := max(0, base-r.Intn(60))
	return api.Sight{No: 1 + r.Intn(9), Cell: pick(r, s.Basin.Cells).No, Day: pick(r, s.Days), Lo: lo, Hi: min(api.MaxWater, lo+r.Intn(50))}
}

// someCells returns a list of some cells of s, but at least one.
func someCells(r *rand.Rand, s api.Scene) []int {
	var all []int
	for _, c := range s.Basin.Cells {
		all = append(all, c.No)
	}
	if l := some(r, all); len(l) > 0 {
		return l
	}
	return []int{pick(r, all)}
}

// largest returns a range and a scene with as much of everything as there can be, but one sight, in which the courses can be visited and measured.
func largest(r *rand.Rand) (api.Range, api.Scene) {
	s := api.Scene{Basin: api.Basin{Gain: 20, Slack: 30, Deep: 600}}
	for i := range api.MaxCells {
		s.Basin.Cells = append(s.Basin.Cells, api.Cell{No: i, Height: 1000 + 50*i, Aspect: i % 2, Area: 1 + r.Intn(api.MaxArea)})
		for j := max(0, i-3); j < i && len(s.Basin.Pairs) < api.MaxPairs; j++ {
			s.Basin.Pairs = append(s.Basin.Pairs, [2]int{j, i})
		}
	}
	for i := range api.MaxDates {
		s.Days = append(s.Days, 170+2*i)
	}
	// All sights and changes hold for fields near that in which each cell has 200 millimetres, and 10 more with each day.
	for len(s.Sights) < api.MaxSights-1 {
		at := r.Intn(len(s.Days))
		water := 200 + 10*at
		s.Sights = append(s.Sights, api.Sight{No: r.Intn(8192), Cell: r.Intn(api.MaxCells), Day: s.Days[at], Lo: water - r.Intn(60), Hi: water + r.Intn(60)})
	}
	for len(s.Changes) < api.MaxChanges {
		from := r.Intn(len(s.Days) - 1)
		to := from + 1 + r.Intn(len(s.Days)-1-from)
		s.Changes = append(s.Changes, api.Change{Cell: r.Intn(api.MaxCells), From: s.Days[from], To: s.Days[to], Lo: 10*(to-from) - r.Intn(60), Hi: 10*(to-from) + r.Intn(60)})
	}
	x := api.Range{Sites: []api.Site{{No: 0, Kind: api.HutT}, {No: 1, Kind: api.HutT}}}
	for i := 2; i < api.MaxSites; i++ {
		x.Sites = append(x.Sites, api.Site{No: 250 * i, Kind: api.CourseT, Cell: i - 2})
	}
	for len(x.Tracks) < api.MaxTracks {
		i := len(x.Tracks)
		x.Tracks = append(x.Tracks, api.Track{No: 80 * i, A: x.Sites[i%16].No, B: x.Sites[(i%16+1+i/16)%16].No, Minutes: 1 + r.Intn(30), Cell: i % 12, Steep: 1 + 7*i%60})
	}
	return x, s
}
