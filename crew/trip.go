package crew

import (
	"slices"

	"snowline/api"
)

// party is a crew that walks and works.
type party struct {
	work    int
	minutes func(walk int) int // of a walk, if this is the sum of the Minutes of its tracks
}

func newParty(c api.Crew) party {
	return party{c.Work, func(walk int) int { return (walk*(100+c.Load) + 99) / 100 }}
}

// takes returns the minutes of a walk, given by the sum of those of its tracks, with visits of so many courses.
func (p party) takes(walk, visits int) int { return p.minutes(walk) + p.work*visits }

// Minutes returns how long a crew takes for tracks, one after the other, with work at courses.
func Minutes(r api.Range, c api.Crew, tracks, courses []int) (int, api.Errno) {
	if e := CheckRange(r); e != api.OK {
		return 0, e
	}
	walk, areFound := findTracks(r, tracks)
	if !isCrew(r, c) || !areFound || !areCourses(r, courses) {
		return 0, api.ErrArg
	}
	return newParty(c).takes(sum(walk), len(courses)), api.OK
}

// CheckTrip returns ErrTrip unless tracks are a trip of a crew that visits courses, ErrUnsafe if it crosses a slope that could break, and ErrLimit if it does not end in daylight.
func CheckTrip(r api.Range, s api.Scene, c api.Crew, day int, tracks, courses []int) api.Errno {
	walk, areFound := findTracks(r, tracks)
	most, e := newSnow(r, s, day, isCrew(r, c) && areFound && areCourses(r, courses))
	if e != api.OK {
		return e
	}
	if !isRound(r, c.Hut, walk, courses) {
		return api.ErrTrip
	}
	if len(most.safe(walk)) < len(walk) {
		return api.ErrUnsafe
	}
	if newParty(c).takes(sum(walk), len(courses)) > light(day) {
		return api.ErrLimit
	}
	return api.OK
}

// Trip returns a quickest trip that visits courses, and whether there is one.
func Trip(r api.Range, s api.Scene, c api.Crew, day int, courses []int) ([]int, bool, api.Errno) {
	w, e := newOpenWeb(r, s, day, isCrew(r, c) && areCourses(r, courses))
	if e != api.OK {
		return nil, false, e
	}
	l, is := w.trip(c, day, courses)
	return l, is, api.OK
}

// trip returns a quickest trip of c on a day that visits courses, and whether there is one. It never has too many tracks: of more than two for each site but one, some could be left out.
func (w *web) trip(c api.Crew, day int, courses []int) ([]int, bool) {
	var stops []int
	for _, no := range courses {
		stops = append(stops, w.place(no))
	}
	hut, all := w.place(c.Hut), 1<<len(stops)-1
	rest := w.rests(stops)
	if newParty(c).takes(rest[all][hut], len(stops)) > light(day) {
		return nil, false
	}
	return w.follow(rest, stops, hut), true
}

// rests returns, for each set of stops and each site, the minutes of a quickest walk from the site to all these stops and then to a hut. The set with the stop i has the bit i.
func (w *web) rests(stops []int) [][]int {
	rests := make([][]int, 1<<len(stops))
	for set := range rests {
		rests[set] = make([]int, len(w.sites))
		for from := range w.sites {
			if set == 0 {
				_, rests[set][from] = w.nearestHut(from)
			} else {
				_, rests[set][from] = w.nextStop(rests, stops, set, from)
			}
		}
	}
	return rests
}

// nextStop returns to which stop of a set, that is not empty, a quickest walk comes first, and its minutes: never, if there is no walk to all of them and to a hut.
func (w *web) nextStop(rests [][]int, stops []int, set, from int) (next, minutes int) {
	minutes = never
	for i, stop := range stops {
		if set&(1<<i) == 0 {
			continue
		}
		if m := w.minutes[from][stop] + rests[set&^(1<<i)][stop]; m < minutes {
			next, minutes = i, m
		}
	}
	return next, minutes
}

// follow returns the tracks of a quickest walk from a site to all stops and then to a hut; there has to be one.
func (w *web) follow(rests [][]int, stops []int, from int) []int {
	var l []int
	for set := len(rests) - 1; set > 0; {
		next, _ := w.nextStop(rests, stops, set, from)
		l = append(l, w.walk(from, stops[next])...)
		from = stops[next]
		set -= 1 << next
	}
	hut, _ := w.nearestHut(from)
	return append(l, w.walk(from, hut)...)
}

// isRound reports whether tracks are a walk from a hut to some hut that comes to each of the courses.
func isRound(r api.Range, hut int, walk []api.Track, courses []int) bool {
	at, passed := hut, []int{hut}
	for _, t := range walk {
		switch at {
		case t.A:
			at = t.B
		case t.B:
			at = t.A
		default:
			return false
		}
		passed = append(passed, at)
	}
	return hasKind(r, at, api.HutT) && !slices.ContainsFunc(courses, func(no int) bool { return !slices.Contains(passed, no) })
}

// sum returns the sum of the Minutes of tracks.
func sum(walk []api.Track) int {
	sum := 0
	for _, t := range walk {
		sum += t.Minutes
	}
	return sum
}
