package share_test

import (
	"math"
	"math/rand"
	"slices"
	"testing"

	"snowline/api"
	"snowline/share"
)

func draw(right, day, volume int) api.Draw { return api.Draw{Right: right, Day: day, Volume: volume} }

// P8.4
func TestCheckPlanExamples(t *testing.T) {
	for i, x := range []struct {
		room    int
		volumes []int
		l       []api.Draw
		e       api.Errno
	}{
		{3, []int{4, 8}, []api.Draw{draw(7, 15, 4), draw(8, 25, 8)}, api.OK}, {3, []int{4, 8}, []api.Draw{draw(8, 25, 8), draw(7, 15, 4)}, api.OK}, {3, []int{2, 9}, []api.Draw{draw(8, 15, 2), draw(7, 15, 2), draw(8, 25, 7)}, api.OK},
		{3, []int{4, 8}, []api.Draw{draw(7, 15, 3), draw(8, 25, 8)}, api.ErrPlan}, {3, []int{4, 7}, []api.Draw{draw(7, 15, 4), draw(8, 25, 8)}, api.ErrPlan}, {3, []int{4, 8}, nil, api.ErrPlan}, {3, []int{0, 0}, nil, api.OK},
		{3, []int{4, 8}, []api.Draw{draw(7, 15, 3), draw(7, 15, 1), draw(8, 25, 8)}, api.ErrPlan}, {3, []int{4, 8}, []api.Draw{draw(7, 15, 4), draw(8, 24, 8)}, api.ErrPlan}, {3, []int{4, 8}, []api.Draw{draw(7, 25, 4), draw(8, 25, 8)}, api.ErrPlan},
		{3, []int{4, 8}, []api.Draw{draw(7, 15, 4), draw(9, 25, 8)}, api.ErrPlan}, {3, []int{4, 8}, []api.Draw{draw(7, 15, 4), draw(8, 25, 8), draw(9, 25, 1)}, api.ErrPlan}, {3, []int{4, 8}, []api.Draw{draw(7, 15, 4), draw(8, 25, 8), draw(8, 15, 0)}, api.ErrPlan},
		{3, []int{4, 8}, []api.Draw{draw(7, 15, 4), draw(8, 25, 9), draw(8, 15, -1)}, api.ErrPlan}, {3, []int{4, 8}, []api.Draw{draw(0, 15, 4), draw(1, 25, 8)}, api.ErrPlan}, {3, []int{4, 8}, []api.Draw{draw(7, 15, 5), draw(8, 25, 8)}, api.ErrPlan},
		{3, []int{0, 9}, []api.Draw{draw(8, 25, 9)}, api.OK}, {1, []int{0, 9}, []api.Draw{draw(8, 25, 9)}, api.OK}, {0, []int{0, 9}, []api.Draw{draw(8, 25, 9)}, api.ErrPlan}, {0, []int{0, 9}, []api.Draw{draw(8, 15, 1), draw(8, 25, 8)}, api.OK},
		// Of 4 that come first, one is left when 3 are taken.
		{3, []int{3, 9}, []api.Draw{draw(7, 15, 3), draw(8, 25, 9)}, api.OK}, {3, []int{4, 9}, []api.Draw{draw(7, 15, 4), draw(8, 25, 9)}, api.ErrPlan}, {0, []int{0, 4}, []api.Draw{draw(8, 15, 4)}, api.OK}, {0, []int{0, 5}, []api.Draw{draw(8, 15, 5)}, api.ErrPlan},
		{3, []int{0, 0}, []api.Draw{draw(8, 15, math.MinInt), draw(8, 25, math.MinInt)}, api.ErrPlan}, {3, []int{0, 0}, []api.Draw{draw(8, 15, math.MaxInt)}, api.ErrPlan}, {3, []int{0, 0}, []api.Draw{draw(8, 15, 0)}, api.ErrPlan},
		{3, []int{0, 0}, []api.Draw{draw(8, -1, 1)}, api.ErrPlan}, {3, []int{0, 0}, []api.Draw{draw(-1, 15, 1)}, api.ErrPlan}, {3, []int{0, 1}, []api.Draw{draw(8, 15, 1), draw(8, 15, 1)}, api.ErrPlan}, {3, []int{0, 2}, []api.Draw{draw(8, 15, 1), draw(8, 15, 1)}, api.ErrPlan},
	} {
		if e := share.CheckPlan(sampleShare(x.room), x.volumes, x.l); e != x.e {
			t.Error(i, e)
		}
	}
}

// P8.4: what is kept in one valley is kept in none of the others, and in no period but the next one beyond the room.
func TestKeptWater(t *testing.T) {
	s := api.Share{
		Rights:   []api.Right{{No: 1, Valley: 1, From: 0, To: 9, Claim: 20}, {No: 2, Valley: 2, From: 0, To: 9, Claim: 20}},
		Supplies: []api.Supply{{Valley: 1, Day: 1, Volume: 9}, {Valley: 1, Day: 2}, {Valley: 1, Day: 3, Volume: 2}, {Valley: 2, Day: 3, Volume: 1}, {Valley: 2, Day: 4, Volume: 1}},
		Ponds:    []api.Pond{{Valley: 1, Room: 4}, {Valley: 3, Room: 7}},
	}
	for i, x := range []struct {
		first, second int
		l             []api.Draw
		e             api.Errno
	}{
		{6, 0, []api.Draw{draw(1, 3, 6)}, api.OK}, {7, 0, []api.Draw{draw(1, 3, 7)}, api.ErrPlan}, {11, 0, []api.Draw{draw(1, 1, 5), draw(1, 3, 6)}, api.OK}, {11, 0, []api.Draw{draw(1, 1, 5), draw(1, 2, 4), draw(1, 3, 2)}, api.OK},
		{11, 0, []api.Draw{draw(1, 1, 9), draw(1, 3, 2)}, api.OK}, {11, 0, []api.Draw{draw(1, 1, 6), draw(1, 3, 5)}, api.OK}, {12, 0, []api.Draw{draw(1, 1, 6), draw(1, 3, 6)}, api.ErrPlan}, {5, 0, []api.Draw{draw(1, 2, 5)}, api.ErrPlan},
		{4, 0, []api.Draw{draw(1, 2, 4)}, api.OK}, {0, 2, []api.Draw{draw(2, 3, 2)}, api.ErrPlan}, {0, 2, []api.Draw{draw(2, 4, 2)}, api.ErrPlan}, {0, 2, []api.Draw{draw(2, 3, 1), draw(2, 4, 1)}, api.OK}, {1, 0, []api.Draw{draw(1, 4, 1)}, api.ErrPlan},
		{0, 1, []api.Draw{draw(2, 1, 1)}, api.ErrPlan}, {1, 1, []api.Draw{draw(1, 3, 1), draw(2, 3, 1)}, api.OK},
	} {
		if e := share.CheckPlan(s, []int{x.first, x.second}, x.l); e != x.e {
			t.Error(i, e)
		}
	}
}

// P8.4: the greatest draw that there can be, and one more than it.
func TestGreatestDraw(t *testing.T) {
	s := api.Share{Rights: []api.Right{{To: 9, Claim: api.MaxVolume}}, Supplies: []api.Supply{{Day: 1, Volume: api.MaxVolume}, {Day: 2, Volume: api.MaxVolume}}, Ponds: []api.Pond{{Room: api.MaxVolume}}}
	for volume, want := range map[int]api.Errno{api.MaxVolume: api.OK, api.MaxVolume + 1: api.ErrPlan, api.MaxVolume - 1: api.ErrPlan} {
		if e := share.CheckPlan(s, []int{api.MaxVolume}, []api.Draw{draw(0, 2, volume)}); e != want {
			t.Error(volume, e)
		}
	}
}

// P8.4: volumes of which the sums go round to 0 as ints.
func TestDrawsThatGoRound(t *testing.T) {
	s := api.Share{Rights: []api.Right{{To: 9, Claim: 5}, {No: 1, To: 9, Claim: 5}}, Supplies: []api.Supply{{Day: 1, Volume: 9}, {Day: 2, Volume: 9}, {Day: 3, Volume: 9}}}
	var l []api.Draw
	for right := range 2 {
		l = append(l, draw(right, 1, math.MaxInt), draw(right, 2, math.MaxInt), draw(right, 3, 2))
	}
	if e := share.CheckPlan(s, []int{0, 0}, l); e != api.ErrPlan {
		t.Error(e)
	}
}

// P8.4: of small shares all lists of draws, in any order, against the chapter.
func TestAllDraws(t *testing.T) {
	r := rand.New(rand.NewSource(84))
	accepted, rejected := 0, 0
	for range 1500 {
		s := randomShare(r, 2, 3, 2)
		possible := map[string][]api.Draw{}
		eachDraw(s, 0, 0, nil, func(l []api.Draw) bool {
			possible[drawsKey(l)] = l
			return true
		})
		eachList(s, 0, nil, func(l []api.Draw) {
			_, is := possible[drawsKey(l)]
			volumes := sums(s, l)
			for i, x := range s.Rights {
				if volumes[i] > x.Claim {
					return
				}
			}
			r.Shuffle(len(l), func(i, j int) { l[i], l[j] = l[j], l[i] })
			e := share.CheckPlan(s, volumes, l)
			if is && e != api.OK || !is && e != api.ErrPlan {
				t.Fatal(s, l, volumes, e, is)
			}
			if is {
				accepted++
			} else {
				rejected++
			}
			for i := range volumes {
				if volumes[i]--; volumes[i] >= 0 && share.CheckPlan(s, volumes, l) != api.ErrPlan {
					t.Fatal(s, l, volumes)
				}
				volumes[i]++
			}
		})
	}
	if accepted < 500 || rejected < 500 {
		t.Error(accepted, rejected)
	}
}

// drawsKey returns a string for draws with small numbers, in the order of the supplies and rights.
func drawsKey(l []api.Draw) string {
	var out []int
	for _, x := range l {
		out = append(out, x.Right, x.Day, x.Volume)
	}
	return key(out)
}

// eachList calls do with all lists of at most one draw of up to 2 for each right and each supply, in the order of eachDraw, whether they are possible or not.
func eachList(s api.Share, i int, out []api.Draw, do func(l []api.Draw)) {
	if i == len(s.Supplies)*len(s.Rights) {
		do(slices.Clone(out))
		return
	}
	x, y := s.Supplies[i/len(s.Rights)], s.Rights[i%len(s.Rights)]
	eachList(s, i+1, out, do)
	if x.Valley == y.Valley {
		for volume := 1; volume <= 2; volume++ {
			eachList(s, i+1, append(slices.Clone(out), draw(y.No, x.Day, volume)), do)
		}
	}
}

// P8.4: plans of shares of all sizes.
func TestPlan(t *testing.T) {
	if l, is, e := share.Plan(sampleShare(3), []int{4, 8}); !is || e != api.OK || share.CheckPlan(sampleShare(3), []int{4, 8}, l) != api.OK {
		t.Error(l, is, e)
	}
	if l, is, e := share.Plan(sampleShare(3), []int{5, 8}); is || e != api.OK || l != nil {
		t.Error(l, is, e)
	}
	for _, s := range []api.Share{{}, sampleShare(0), longShare(rand.New(rand.NewSource(1)), 5)} {
		if l, is, e := share.Plan(s, make([]int, len(s.Rights))); !is || e != api.OK || len(l) > 0 {
			t.Error(l, is, e)
		}
	}
	r := rand.New(rand.NewSource(842))
	for _, most := range []int{3, 1000, api.MaxVolume} {
		for range 40 {
			s := longShare(r, most)
			volumes := promises(t, s)
			l, is, e := share.Plan(s, volumes)
			if !is || e != api.OK || share.CheckPlan(s, volumes, l) != api.OK {
				t.Fatal(s, l, is, e)
			}
		}
	}
}
