package crew_test

import (
	"math"
	"strconv"
	"strings"
	"testing"

	"snowline/api"
	"snowline/crew"
)

// P7.7
func TestTexts(t *testing.T) {
	for text, x := range map[string]api.Track{
		"track 1 1 2 100 7 35":           {No: 1, A: 1, B: 2, Minutes: 100, Cell: 7, Steep: 35},
		"track 0 4095 0 1 0 0":           {A: 4095, Minutes: 1},
		"track 4095 0 4095 1440 4095 60": {No: 4095, B: 4095, Minutes: 1440, Cell: 4095, Steep: 60},
		"track 10 20 30 40 0 1":          {No: 10, A: 20, B: 30, Minutes: 40, Steep: 1},
	} {
		if s, e := crew.PrintTrack(x); s != text || e != api.OK {
			t.Error(x, s, e)
		}
		if y, e := crew.ParseTrack(text); y != x || e != api.OK {
			t.Error(text, y, e)
		}
	}
}

// P7.7
func TestBadTexts(t *testing.T) {
	for _, s := range []string{
		"", "track", "track ", "track 1 1 2 100 7", "track 1 1 2 100 7 35 1", "track 1 1 2 100 7 35 ", " track 1 1 2 100 7 35", "track  1 1 2 100 7 35", "track 1 1 2 100 7 35\n",
		"Track 1 1 2 100 7 35", "tracks 1 1 2 100 7 35", "1 1 2 100 7 35", "track\t1 1 2 100 7 35", "track 1 1 1 100 7 35", "track 1 1 2 0 7 35", "track 1 1 2 1441 7 35",
		"track 1 1 2 100 7 0", "track 1 1 2 100 7 61", "track 4096 1 2 100 7 35", "track 1 4096 2 100 7 35", "track 1 1 4096 100 7 35", "track 1 1 2 100 4096 35", "track -1 1 2 100 7 35",
		"track 1 1 2 100 7 -35", "track 01 1 2 100 7 35", "track 1 1 2 100 07 35", "track 1 1 2 100 7 035", "track +1 1 2 100 7 35", "track 1 1 2 100 -0 35", "track 1 1 2 1e2 7 35",
		"track 1 1 2 100  35", "track 1 1 2 100 7 ", "track 1 1 2 100 7 x", "track 1 1 2 100 7 3:", "track 1 1 2 100 7 3/", "track 18446744073709551617 1 2 100 7 35", "track ٣ 1 2 100 7 35",
		"track 1 1 2 100 7 35" + strings.Repeat(" 1", 100000), "track " + strings.Repeat("9", 100000) + " 1 2 100 7 35",
	} {
		if x, e := crew.ParseTrack(s); x != (api.Track{}) || e != api.ErrParse {
			t.Errorf("%.60q: %v %d", s, x, e)
		}
	}
	for i, x := range []api.Track{
		{}, {A: 1, Minutes: 1, Cell: 1}, {A: 3, B: 3, Minutes: 1}, {A: 1}, {A: 1, Minutes: 1441}, {No: -1, A: 1, Minutes: 1}, {No: 4096, A: 1, Minutes: 1}, {A: 4096, Minutes: 1}, {A: -1, Minutes: 1},
		{B: 4096, Minutes: 1}, {B: -1, Minutes: 1}, {A: 1, Minutes: 1, Steep: 61}, {A: 1, Minutes: 1, Steep: -1}, {A: 1, Minutes: 1, Steep: 5, Cell: 4096}, {A: 1, Minutes: 1, Steep: 5, Cell: -1},
		{A: 1, Minutes: math.MaxInt}, {A: 1, Minutes: math.MinInt}, {A: -1, B: 4096, Minutes: 1},
	} {
		if s, e := crew.PrintTrack(x); s != "" || e != api.ErrRange {
			t.Error(i, s, e)
		}
	}
}

// P7.7: each undoes the other.
func TestTextsAreInverse(t *testing.T) {
	text := func(l ...int) string {
		s := "track"
		for _, x := range l {
			s += " " + strconv.Itoa(x)
		}
		return s
	}
	valid := 0
	numbers := []int{-1, 0, 1, 25, 60, 61, 1440, 1441, 4095, 4096}
	for _, no := range numbers {
		for _, a := range numbers {
			for _, minutes := range numbers {
				for _, cell := range numbers {
					for _, steep := range numbers {
						x := api.Track{No: no, A: a, B: 25, Minutes: minutes, Cell: cell, Steep: steep}
						s, e := crew.PrintTrack(x)
						y, parsed := crew.ParseTrack(text(no, a, 25, minutes, cell, steep))
						if (e == api.OK) != (parsed == api.OK) || e == api.OK && (x != y || s != text(no, a, 25, minutes, cell, steep)) {
							t.Fatal(x, s, e, y, parsed)
						}
						if e == api.OK {
							valid++
						}
					}
				}
			}
		}
	}
	// 8 numbers, 7 sites, 5 times, and 8 cells with 3 slopes or the cell 0 without one.
	if valid != 8*7*5*(8*3+1) {
		t.Error(valid)
	}
}
