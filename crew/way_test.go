package crew_test

import (
	"math/rand"
	"slices"
	"testing"

	"snowline/api"
	"snowline/crew"
)

// isAt returns a function that reports whether a No is this one.
func isAt(no int) func(no int) bool { return func(other int) bool { return other == no } }

// P7.3, the chapter's third example.
func TestWay(t *testing.T) {
	double := sample()
	double.Tracks[3] = api.Track{No: 7, A: 2, B: 1, Minutes: 99}
	for i, x := range []struct {
		r          api.Range
		most       int
		from, to   int
		want       []int
		minutes    int
		isThereOne bool
	}{
		{sample(), 1200, 1, 2, []int{3, 4}, 170, true}, {sample(), 1200, 2, 1, []int{4, 3}, 170, true}, {sample(), 999, 1, 2, []int{1}, 100, true},
		{sample(), 999, 4, 1, []int{2, 1}, 250, true}, {sample(), 1200, 4, 4, nil, 0, true}, {double, 999, 1, 2, []int{7}, 99, true}, {double, 1200, 4, 1, []int{2, 7}, 249, true},
		{api.Range{Sites: sample().Sites}, 0, 1, 2, nil, 0, false}, {api.Range{Sites: sample().Sites}, 0, 2, 2, nil, 0, true},
		{api.Range{Sites: sample().Sites, Tracks: sample().Tracks[:3]}, 1200, 1, 4, nil, 0, false},
	} {
		l, minutes, is, e := crew.Way(x.r, oneCell(91, 0, x.most), 91, x.from, x.to)
		if !slices.Equal(l, x.want) || minutes != x.minutes || is != x.isThereOne || e != api.OK {
			t.Error(i, l, minutes, is, e)
		}
	}
}

// P7.3
func TestCut(t *testing.T) {
	r := api.Range{Sites: sample().Sites, Tracks: sample().Tracks[:3]}
	for i, x := range []struct {
		most, from, to int
		want           []int
		isCut          bool
	}{{1200, 1, 4, []int{1, 3}, true}, {1200, 2, 3, []int{2, 4}, true}, {999, 1, 4, nil, false}, {1200, 1, 1, nil, false}} {
		if l, is, e := crew.Cut(r, oneCell(91, 0, x.most), 91, x.from, x.to); !slices.Equal(l, x.want) || is != x.isCut || e != api.OK {
			t.Error(i, l, is, e)
		}
	}
	r.Tracks = nil
	if l, is, e := crew.Cut(r, oneCell(91, 0, 5), 91, 3, 4); !slices.Equal(l, []int{3}) || !is || e != api.OK {
		t.Error(l, is, e)
	}
}

// P7.3
func TestReach(t *testing.T) {
	// The day 91 has 720 minutes; from the hut 1 by 3 and 2 to the hut 4 it takes 320, to 3 and back 160.
	for i, x := range []struct {
		c    api.Crew
		want []int
	}{
		{sampleCrew(), []int{1, 2, 3, 4}}, {api.Crew{Hut: 1, Work: 1440, Load: 125}, []int{1, 2, 3, 4}}, {api.Crew{Hut: 1, Load: 126}, []int{1, 3}},
		{api.Crew{Hut: 4, Load: 126}, []int{2, 4}}, {api.Crew{Hut: 4}, []int{1, 2, 3, 4}},
	} {
		if l, e := crew.Reach(sample(), oneCell(91, 0, 1200), x.c, 91); !slices.Equal(l, x.want) || e != api.OK {
			t.Error(i, l, e)
		}
	}
	alone := api.Range{Sites: sample().Sites}
	if l, e := crew.Reach(alone, oneCell(91, 0, 1200), api.Crew{Hut: 4}, 91); !slices.Equal(l, []int{4}) || e != api.OK {
		t.Error(l, e)
	}
}

// P7.3, P7.9: ways and cuts of ranges with many tracks, against all sums of minutes that are tried.
func TestWaysByTrying(t *testing.T) {
	rnd := rand.New(rand.NewSource(3))
	ways, cuts := 0, 0
	for range 300 {
		r, s := someRange(rnd, 2+rnd.Intn(7), 2+rnd.Intn(12), 1+rnd.Intn(150)), someScene(rnd, 250+rnd.Intn(900))
		day := pick(rnd, s.Days)
		safe := safeTracks(t, r, s, day)
		for range 9 {
			from, to := pick(rnd, r.Sites).No, pick(rnd, r.Sites).No
			want, isThereOne := quickest(safe, from, nil, isAt(to))
			l, minutes, is, e := crew.Way(r, s, day, from, to)
			if minutes != want || is != isThereOne || e != api.OK {
				t.Fatal(r, s, day, from, to, l, minutes, is, e)
			}
			if end, isWalk := ends(r, from, l); is && (!isWalk || end != to || sumOf(r, l) != want) || !is && len(l) > 0 {
				t.Fatal(r, s, day, from, to, l)
			}
			for _, no := range l {
				if !slices.ContainsFunc(safe, func(x api.Track) bool { return x.No == no }) {
					t.Fatal(r, s, day, from, to, l)
				}
			}
			cut, isCut, e := crew.Cut(r, s, day, from, to)
			if isCut == is || e != api.OK {
				t.Fatal(r, s, day, from, to, cut, isCut, e)
			}
			if is {
				ways += len(l)
				if len(cut) > 0 {
					t.Fatal(r, s, day, from, to, cut)
				}
				continue
			}
			cuts++
			var reached []int
			for _, x := range r.Sites {
				if _, is := quickest(safe, from, nil, isAt(x.No)); is {
					reached = append(reached, x.No)
				}
			}
			if !slices.Equal(cut, reached) {
				t.Fatal(r, s, day, from, to, cut)
			}
		}
	}
	if ways < 1000 || cuts < 300 {
		t.Error("too few cases:", ways, cuts)
	}
}

// P7.9: the way back takes as long, a way by a third site never less, and no safe track leaves what Cut returns.
func TestWays(t *testing.T) {
	rnd := rand.New(rand.NewSource(4))
	for range 100 {
		r, s := someRange(rnd, 1+rnd.Intn(16), rnd.Intn(49), 1440), someScene(rnd, 250+rnd.Intn(900))
		day := pick(rnd, s.Days)
		safe := safeTracks(t, r, s, day)
		for range 20 {
			from, by, to := pick(rnd, r.Sites).No, pick(rnd, r.Sites).No, pick(rnd, r.Sites).No
			_, there, is, _ := crew.Way(r, s, day, from, to)
			back, minutes, isBack, _ := crew.Way(r, s, day, to, from)
			if is != isBack || minutes != there || is && minutes != sumOf(r, back) {
				t.Fatal(r, s, day, from, to, there, minutes)
			}
			_, first, isFirst, _ := crew.Way(r, s, day, from, by)
			_, second, isSecond, _ := crew.Way(r, s, day, by, to)
			if isFirst && isSecond && (!is || first+second < there) {
				t.Fatal(r, s, day, from, by, to, there, first, second)
			}
			cut, isCut, e := crew.Cut(r, s, day, from, to)
			if isCut == is || e != api.OK {
				t.Fatal(r, s, day, from, to, cut, isCut, e)
			}
			for _, x := range safe {
				if isCut && slices.Contains(cut, x.A) != slices.Contains(cut, x.B) {
					t.Fatal(r, s, day, from, to, cut, x)
				}
			}
		}
	}
}
