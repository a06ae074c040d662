package crew_test

import (
	"reflect"
	"slices"
	"testing"

	"snowline/api"
	"snowline/crew"
)

// arguments are what functions are called with.
type arguments struct {
	r      api.Range
	s      api.Scene
	c      api.Crew
	day    int
	tracks []int
	width  int
}

// valid returns arguments that cause no error: the track 1 is not safe, and the cell 7 has from 900 to 1000 millimetres.
func valid() arguments {
	return arguments{sample(), oneCell(91, 900, 1000), sampleCrew(), 91, []int{3, 4, 2}, 5}
}

// spoil makes those arguments invalid for which functions return an error.
func (a *arguments) spoil(e api.Errno) {
	switch e {
	case api.ErrRange:
		a.r.Sites[2].Kind = 4
	case api.ErrBasin:
		a.s.Basin.Deep = -1
	case api.ErrSight:
		a.s.Sights = with(a.s, api.Sight{Cell: 8, Day: 91}).Sights
	case api.ErrChange:
		a.s.Changes = []api.Change{{Cell: 7, From: 91, To: 91}}
	case api.ErrArg:
		a.day, a.c.Load = -1, -1
	case api.ErrClash:
		a.s.Sights = with(a.s, api.Sight{No: 2, Cell: 7, Day: 91, Lo: 1001, Hi: 1300}).Sights
	case api.ErrTrip:
		a.tracks = []int{1}
	case api.ErrUnsafe:
		a.tracks = []int{1, 2}
	case api.ErrLimit:
		a.c.Work, a.width = 1440, 29
	}
}

// call is a function of the package, and its errors in their order.
type call struct {
	name  string
	order []api.Errno
	do    func(a arguments) []any // the last result is the error
}

// results returns what was returned.
func results(l ...any) []any { return l }

// two returns a list of two results, as those of a call cannot stand beside other arguments.
func two(x any, e api.Errno) []any { return results(x, e) }

func three(x, y any, e api.Errno) []any { return results(x, y, e) }

func four(x, y, z any, e api.Errno) []any { return results(x, y, z, e) }

func calls() []call {
	first := []api.Errno{api.ErrRange, api.ErrBasin, api.ErrSight, api.ErrChange, api.ErrArg, api.ErrClash}
	return []call{
		{"Safe", first, func(a arguments) []any { return two(crew.Safe(a.r, a.s, 2, a.day)) }},
		{"Open", first, func(a arguments) []any { return two(crew.Open(a.r, a.s, a.day)) }},
		{"Way", first, func(a arguments) []any { return four(crew.Way(a.r, a.s, a.day, 1, 2)) }},
		{"Cut", first, func(a arguments) []any { return three(crew.Cut(a.r, a.s, a.day, 1, 2)) }},
		{"Reach", first, func(a arguments) []any { return two(crew.Reach(a.r, a.s, a.c, a.day)) }},
		{"Minutes", []api.Errno{api.ErrRange, api.ErrArg}, func(a arguments) []any { return two(crew.Minutes(a.r, a.c, a.tracks, []int{2})) }},
		{"CheckTrip", slices.Concat(first, []api.Errno{api.ErrTrip}), func(a arguments) []any { return results(crew.CheckTrip(a.r, a.s, a.c, a.day, a.tracks, []int{2})) }},
		{"CheckTrip", slices.Concat(first, []api.Errno{api.ErrUnsafe, api.ErrLimit}), func(a arguments) []any {
			return results(crew.CheckTrip(a.r, a.s, a.c, a.day, a.tracks, []int{2}))
		}},
		{"Trip", first, func(a arguments) []any { return three(crew.Trip(a.r, a.s, a.c, a.day, []int{2})) }},
		{"Worst", slices.Concat(first[1:], []api.Errno{api.ErrLimit}), func(a arguments) []any { return two(crew.Worst(a.s, []int{7}, a.day, 7, a.width)) }},
		{"Told", slices.Concat(first[1:], []api.Errno{api.ErrLimit}), func(a arguments) []any { return three(crew.Told(a.s, []int{7}, a.day, 7, a.width)) }},
		{"Best", first, func(a arguments) []any { return three(crew.Best(a.r, a.s, a.c, a.day, []int{7}, a.width)) }},
		{"Best", []api.Errno{api.ErrRange, api.ErrLimit}, func(a arguments) []any { return three(crew.Best(a.r, a.s, sampleCrew(), a.day, []int{7}, a.width)) }},
		{"Next", first, func(a arguments) []any { return three(crew.Next(a.r, a.s, a.c, a.day, []int{7}, a.width)) }},
		{"Next", []api.Errno{api.ErrRange, api.ErrLimit}, func(a arguments) []any { return three(crew.Next(a.r, a.s, sampleCrew(), a.day, []int{7}, a.width)) }},
	}
}

// P7.2 to P7.6: the errors of all functions, in their order.
func TestErrorOrder(t *testing.T) {
	for _, c := range calls() {
		if out := c.do(valid()); out[len(out)-1] != api.OK {
			t.Errorf("%s of valid arguments returns %v", c.name, out)
		}
		for i, want := range c.order {
			a := valid()
			for _, e := range c.order[i:] {
				a.spoil(e)
				out := c.do(a)
				if out[len(out)-1] != want {
					t.Errorf("%s, spoilt from %d to %d, returns the error %v", c.name, want, e, out[len(out)-1])
				}
				for _, x := range out[:len(out)-1] {
					if !reflect.ValueOf(x).IsZero() {
						t.Errorf("%s returns %v with the error %d", c.name, x, want)
					}
				}
			}
		}
	}
}

// P7.2 to P7.6: sites that there are not are arguments as well.
func TestSitesThatThereAreNot(t *testing.T) {
	r, s := sample(), oneCell(91, 0, 5)
	for _, x := range [][2]int{{0, 1}, {1, 0}, {5, 1}, {1, 5}, {-1, -1}} {
		if l, minutes, is, e := crew.Way(r, s, 91, x[0], x[1]); len(l) > 0 || minutes != 0 || is || e != api.ErrArg {
			t.Error(x, l, minutes, is, e)
		}
		if l, is, e := crew.Cut(r, s, 91, x[0], x[1]); len(l) > 0 || is || e != api.ErrArg {
			t.Error(x, l, is, e)
		}
		if l, minutes, is, e := crew.Way(r, noField(), 91, x[0], x[1]); len(l) > 0 || minutes != 0 || is || e != api.ErrArg {
			t.Error(x, l, minutes, is, e)
		}
	}
	if is, e := crew.Safe(r, noField(), 9, 91); is || e != api.ErrArg {
		t.Error(is, e)
	}
	if l, e := crew.Open(api.Range{}, noField(), 91); len(l) > 0 || e != api.ErrClash {
		t.Error(l, e)
	}
	s.Days = nil
	if l, e := crew.Open(r, s, 91); len(l) > 0 || e != api.ErrArg {
		t.Error(l, e)
	}
}

// roomy returns a copy of l with zero values behind it.
func roomy[T any](l []T) []T { return append(make([]T, 0, 99), l...) }

// P7.2 to P7.6, R2: arguments stay as they are, and results are new memory.
func TestPurity(t *testing.T) {
	r, s := twoCourses(), above()
	r.Sites, r.Tracks = roomy(r.Sites), roomy(r.Tracks)
	s.Basin.Cells, s.Basin.Pairs, s.Days, s.Sights = roomy(s.Basin.Cells), roomy(s.Basin.Pairs), roomy(s.Days), roomy(s.Sights)
	tracks, courses, cells := roomy([]int{1, 9, 9, 1}), roomy([]int{2, 6}), roomy([]int{7, 9})
	c := sampleCrew()
	do := func() []any {
		open, _ := crew.Open(r, s, 91)
		way, _, _, _ := crew.Way(r, s, 91, 6, 4)
		cut, _, _ := crew.Cut(api.Range{Sites: r.Sites, Tracks: r.Tracks[3:]}, s, 91, 1, 2)
		reach, _ := crew.Reach(r, s, c, 91)
		minutes, _ := crew.Minutes(r, c, tracks, courses)
		e := crew.CheckTrip(r, s, c, 91, tracks, courses)
		trip, _, _ := crew.Trip(r, s, c, 91, courses)
		worst, _ := crew.Worst(s, cells, 91, 7, 20)
		told, _, _ := crew.Told(s, cells, 91, 9, 20)
		next, _, _ := crew.Next(r, s, c, 91, cells, 3)
		return []any{open, way, cut, reach, minutes, e, trip, worst, told, next}
	}
	want := do()
	for i, now := range want {
		if again, is := do()[i].([]int); is {
			clear(again[:cap(again)])
		}
		if !reflect.DeepEqual(do(), want) {
			t.Errorf("changing %v changes later results", now)
		}
	}
	if !reflect.DeepEqual(r, twoCourses()) || !reflect.DeepEqual(s, above()) {
		t.Error("the range or the scene was changed")
	}
	if !slices.Equal(tracks, []int{1, 9, 9, 1}) || !slices.Equal(courses, []int{2, 6}) || !slices.Equal(cells, []int{7, 9}) {
		t.Error("lists of numbers were changed")
	}
	if r.Sites[:6][5] != (api.Site{}) || r.Tracks[:6][5] != (api.Track{}) || s.Basin.Cells[:3][2] != (api.Cell{}) || s.Sights[:2][1] != (api.Sight{}) || s.Days[:2][1] != 0 {
		t.Error("the memory behind the range or the scene was changed")
	}
	if tracks[:5][4] != 0 || courses[:3][2] != 0 || cells[:3][2] != 0 {
		t.Error("the memory behind lists was changed")
	}
}
