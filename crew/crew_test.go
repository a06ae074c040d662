package crew_test

import (
	"math"
	"testing"

	"snowline/api"
	"snowline/crew"
)

// P7.1
func TestCheckRange(t *testing.T) {
	full := api.Range{}
	for i := range api.MaxSites {
		full.Sites = append(full.Sites, api.Site{No: i, Kind: api.HutT})
	}
	for i := range api.MaxTracks {
		full.Tracks = append(full.Tracks, api.Track{No: i, A: i % 16, B: (i + 1) % 16, Minutes: 1})
	}
	ends := sample()
	ends.Sites = append(ends.Sites, api.Site{No: 4095, Kind: api.CourseT, Cell: 4095})
	ends.Sites[0].No = 0
	ends.Tracks = []api.Track{
		{No: 0, A: 0, B: 4095, Minutes: 1, Steep: 60, Cell: 4095}, {No: 3, A: 4095, B: 0, Minutes: 1440, Steep: 1},
		{No: 4095, A: 0, B: 4095, Minutes: 7},
	}
	for i, r := range []api.Range{sample(), full, ends, {}, {Sites: sample().Sites}, {Sites: []api.Site{{Kind: api.CourseT}}}} {
		if e := crew.CheckRange(r); e != api.OK {
			t.Error(i, e)
		}
	}
	for i, spoil := range []func(r *api.Range){
		func(r *api.Range) { r.Sites[0].No = -1 },
		func(r *api.Range) { r.Sites[0].No = 2 },
		func(r *api.Range) { r.Sites[3].No = 4096; r.Tracks[1].B = 4096 },
		func(r *api.Range) { r.Sites[2], r.Sites[3] = r.Sites[3], r.Sites[2] },
		func(r *api.Range) { r.Sites[3] = r.Sites[2]; r.Tracks = nil },
		func(r *api.Range) { r.Sites[2].Kind = 0 },
		func(r *api.Range) { r.Sites[2].Kind = 4 },
		func(r *api.Range) { r.Sites[2].Kind = math.MinInt },
		func(r *api.Range) { r.Sites[0].Cell = 1 },
		func(r *api.Range) { r.Sites[2].Cell = 1 },
		func(r *api.Range) { r.Sites[1].Cell = -1 },
		func(r *api.Range) { r.Sites[1].Cell = 4096 },
		func(r *api.Range) { r.Sites = r.Sites[:3] },
		func(r *api.Range) { r.Sites = nil },
		func(r *api.Range) { r.Tracks[0].No = -1 },
		func(r *api.Range) { r.Tracks[3].No = 4096 },
		func(r *api.Range) { r.Tracks[1].No = 1 },
		func(r *api.Range) { r.Tracks[2].No = 5 },
		func(r *api.Range) { r.Tracks[0].A = 5 },
		func(r *api.Range) { r.Tracks[1].No, r.Tracks[1].A = 1, 5 },
		func(r *api.Range) { r.Tracks[1].A, r.Tracks[1].B = 5, 6 },
		func(r *api.Range) { r.Tracks[0].B = 0 },
		func(r *api.Range) { r.Tracks[3].A = 2 },
		func(r *api.Range) { r.Tracks[2].A = math.MaxInt },
		func(r *api.Range) { r.Tracks[0].Minutes = 0 },
		func(r *api.Range) { r.Tracks[0].Minutes = 1441 },
		func(r *api.Range) { r.Tracks[0].Minutes = -5 },
		func(r *api.Range) { r.Tracks[0].Cell = -1 },
		func(r *api.Range) { r.Tracks[0].Cell = 4096 },
		func(r *api.Range) { r.Tracks[1].Cell = 1 },
		func(r *api.Range) { r.Tracks[0].Steep = 61 },
		func(r *api.Range) { r.Tracks[0].Steep = -1 },
		func(r *api.Range) { r.Tracks[0].Steep = math.MaxInt },
	} {
		r := sample()
		spoil(&r)
		if e := crew.CheckRange(r); e != api.ErrRange {
			t.Error(i, e)
		}
	}
	sites, tracks := full, full
	sites.Sites = append(sites.Sites[:16:16], api.Site{No: 16, Kind: api.HutT})
	tracks.Tracks = append(tracks.Tracks[:48:48], api.Track{No: 48, A: 0, B: 1, Minutes: 1})
	for _, r := range []api.Range{sites, tracks} {
		if e := crew.CheckRange(r); e != api.ErrRange {
			t.Error(len(r.Sites), len(r.Tracks), e)
		}
	}
}

// P7.1, the chapter's first example.
func TestLight(t *testing.T) {
	for _, x := range [][2]int{{0, 480}, {91, 720}, {182, 960}, {364, 482}, {365, 480}} {
		if n, e := crew.Light(x[0]); n != x[1] || e != api.OK {
			t.Error(x, n, e)
		}
	}
	for day := 0; day <= api.MaxDay; day++ {
		y := float64(day % 365)
		want := math.Floor(480 + 480*y/182)
		if y > 182 {
			want = math.Floor(480 + 480*(365-y)/183)
		}
		if n, e := crew.Light(day); n != int(want) || e != api.OK {
			t.Fatal(day, n, e)
		}
	}
	for _, day := range []int{-1, api.MaxDay + 1, math.MinInt, math.MaxInt} {
		if n, e := crew.Light(day); n != 0 || e != api.ErrArg {
			t.Error(day, n, e)
		}
	}
}

// P7.1, the chapter's second example, and all other waters and slopes.
func TestBreaksAndBears(t *testing.T) {
	for _, x := range [][2]int{{0, 65536}, {25, 65536}, {35, 999}, {60, 285}} {
		if n, e := crew.Bears(x[0]); n != x[1] || e != api.OK {
			t.Error(x, n, e)
		}
	}
	for steep := 0; steep <= 60; steep++ {
		bears := -1
		for water := 0; water <= api.MaxWater; water++ {
			want := steep > 25 && water*(steep-25) >= 10000
			if is, e := crew.Breaks(water, steep); is != want || e != api.OK {
				t.Fatal(water, steep, is, e)
			}
			if !want {
				bears = water
			}
		}
		if n, e := crew.Bears(steep); n != bears || e != api.OK {
			t.Error(steep, n, e)
		}
	}
	for _, x := range [][2]int{{-1, 30}, {65537, 30}, {5, -1}, {5, 61}, {math.MaxInt, math.MaxInt}, {math.MinInt, math.MinInt}} {
		if is, e := crew.Breaks(x[0], x[1]); is || e != api.ErrArg {
			t.Error(x, is, e)
		}
	}
	for _, steep := range []int{-1, 61, math.MaxInt, math.MinInt} {
		if n, e := crew.Bears(steep); n != 0 || e != api.ErrArg {
			t.Error(steep, n, e)
		}
	}
}
