package share_test

import (
	"math/rand"
	"slices"
	"testing"

	"snowline/api"
	"snowline/share"
)

// P8.3: the chapter's examples.
func TestPromiseExamples(t *testing.T) {
	for i, x := range []struct {
		s     api.Share
		want  []int
		short []int
	}{
		{sampleShare(0), []int{4, 8}, []int{0, 1}}, {sampleShare(3), []int{4, 8}, []int{0, 1}}, {api.Share{Rights: []api.Right{{Claim: 3}}}, []int{0}, []int{0}}, {api.Share{}, nil, nil},
		{api.Share{Rights: []api.Right{{From: 2, To: 2, Claim: 4}}, Supplies: []api.Supply{{Day: 1, Volume: 5}, {Day: 2}}, Ponds: []api.Pond{{Room: 2}}}, []int{2}, []int{0}},
		// The elder right waits, and leaves the first period to the younger one.
		{api.Share{Rights: []api.Right{{No: 1, From: 1, To: 2, Claim: 5}, {No: 2, From: 1, To: 1, Claim: 5}}, Supplies: []api.Supply{{Day: 1, Volume: 5}, {Day: 2, Volume: 5}}}, []int{5, 5}, nil},
		// It takes all where both cannot.
		{api.Share{Rights: []api.Right{{No: 1, From: 1, To: 2, Claim: 8}, {No: 2, From: 1, To: 1, Claim: 5}}, Supplies: []api.Supply{{Day: 1, Volume: 5}, {Day: 2, Volume: 5}}}, []int{8, 2}, []int{1}},
		// Water of another valley, or of another pond, is of no use.
		{api.Share{Rights: []api.Right{{Valley: 2, From: 1, To: 3, Claim: 5}}, Supplies: []api.Supply{{Valley: 1, Day: 2, Volume: 9}, {Valley: 2, Day: 0, Volume: 9}, {Valley: 2, Day: 2, Volume: 1}}, Ponds: []api.Pond{{Valley: 1, Room: 9}, {Valley: 3, Room: 9}}}, []int{1}, []int{0}},
		{api.Share{Rights: []api.Right{{Valley: 2, From: 1, To: 3, Claim: 5}}, Supplies: []api.Supply{{Valley: 1, Day: 2, Volume: 9}, {Valley: 2, Day: 2, Volume: 1}}, Ponds: []api.Pond{{Valley: 1, Room: 9}, {Valley: 2, Room: 9}}}, []int{1}, []int{0}},
		// At both ends of its days a right may take water, and beyond them not.
		{api.Share{Rights: []api.Right{{From: 2, To: 4, Claim: 100}}, Supplies: []api.Supply{{Day: 1, Volume: 1}, {Day: 2, Volume: 2}, {Day: 3, Volume: 4}, {Day: 4, Volume: 8}, {Day: 5, Volume: 16}}}, []int{14}, []int{0}},
		// What is kept is kept again, as far as there is room.
		{api.Share{Rights: []api.Right{{From: 9, To: 9, Claim: 100}}, Supplies: []api.Supply{{Day: 1, Volume: 9}, {Day: 5, Volume: 0}, {Day: 7, Volume: 1}, {Day: 9, Volume: 3}}, Ponds: []api.Pond{{Room: 5}}}, []int{8}, []int{0}},
		// A right with no claim is promised all of it.
		{api.Share{Rights: []api.Right{{}}}, []int{0}, nil},
		{api.Share{Rights: []api.Right{{From: 0, To: 3, Claim: api.MaxVolume}}, Supplies: []api.Supply{{Day: 1, Volume: api.MaxVolume - 1}, {Day: 2, Volume: 1}}}, []int{api.MaxVolume}, nil},
	} {
		if l := promises(t, x.s); !slices.Equal(l, x.want) {
			t.Error(i, l)
		}
		if l, e := share.Short(x.s); !slices.Equal(l, x.short) || e != api.OK {
			t.Error(i, l, e)
		}
	}
}

// P8.3
func TestEnoughExamples(t *testing.T) {
	for i, x := range []struct {
		room    int
		volumes []int
		want    bool
	}{{0, []int{4, 8}, true}, {0, []int{0, 9}, true}, {0, []int{3, 9}, true}, {0, []int{4, 9}, false}, {0, []int{5, 0}, false}, {3, []int{5, 0}, false}, {3, []int{4, 8}, true}, {3, []int{3, 9}, true}, {0, []int{0, 0}, true}} {
		if is := isEnough(t, sampleShare(x.room), x.volumes); is != x.want {
			t.Error(i, is)
		}
	}
	// 3 of the first period can be kept for a right that may take water in the second one only.
	for _, x := range []struct {
		room, first, second int
		want                bool
	}{{0, 4, 8, true}, {0, 0, 9, false}, {3, 1, 11, true}, {3, 2, 11, false}, {3, 0, 12, false}, {4, 0, 12, true}, {9, 0, 13, false}, {9, 1, 11, true}, {9, 1, 12, false}} {
		if is := isEnough(t, lateShare(x.room), []int{x.first, x.second}); is != x.want {
			t.Error(x, is)
		}
	}
}

// P8.3: small shares against all draws.
func TestSmallShares(t *testing.T) {
	r := rand.New(rand.NewSource(83))
	lacking, kept, less := 0, 0, 0
	for range 5000 {
		s := randomShare(r, 3, 3, 3)
		can := takeable(s)
		eachVolumes(s, func(l []int) {
			if isEnough(t, s, l) != can[key(l)] {
				t.Fatal(s, l, can[key(l)])
			}
			if !can[key(l)] {
				lacking++
			}
		})
		want := promised(s, can)
		if l := promises(t, s); !slices.Equal(l, want) {
			t.Fatal(s, l, want)
		}
		var short []int
		for i, x := range want {
			if x < s.Rights[i].Claim {
				short = append(short, i)
			}
		}
		if l, e := share.Short(s); !slices.Equal(l, short) || e != api.OK {
			t.Fatal(s, l, short, e)
		}
		less += len(short)
		dry := copyShare(s)
		if dry.Ponds = nil; !slices.Equal(want, promises(t, dry)) {
			kept++
		}
	}
	if lacking < 500 || kept < 30 || less < 100 {
		t.Error(lacking, kept, less)
	}
}

// needed tells from the chapter what share.Need returns for a small share, by trying more and more.
func needed(s api.Share, right, valley, day int) (int, bool) {
	at := slices.IndexFunc(s.Supplies, func(x api.Supply) bool { return x.Valley == valley && x.Day >= day })
	if at < 0 {
		return 0, false
	}
	all := 0
	for _, x := range s.Rights {
		all += x.Claim
	}
	s = copyShare(s)
	for more := range all + 2 {
		if promised(s, takeable(s))[right] == s.Rights[right].Claim {
			return more, true
		}
		s.Supplies[at].Volume++
	}
	return 0, false
}

// P8.6: the chapter's examples.
func TestNeedExamples(t *testing.T) {
	alone := api.Share{Rights: []api.Right{{From: 1, To: 9, Claim: 5}, {No: 1, From: 1, To: 9}}, Supplies: []api.Supply{{Day: 5, Volume: 5}, {Valley: 2, Day: 5}}}
	great := api.Share{Rights: []api.Right{{From: 1, To: 9, Claim: api.MaxVolume}, {No: 1, From: 1, To: 9, Claim: api.MaxVolume}}, Supplies: []api.Supply{{Day: 5, Volume: api.MaxVolume - 1}}}
	for i, x := range []struct {
		s                  api.Share
		right, valley, day int
		want               int
		is                 bool
	}{
		{sampleShare(0), 0, 1, 12, 1, true}, {sampleShare(0), 0, 1, 0, 1, true}, {sampleShare(0), 0, 1, 15, 1, true}, {sampleShare(0), 0, 1, 16, 0, false}, {sampleShare(0), 0, 1, 26, 0, false}, {sampleShare(3), 0, 1, 16, 0, false},
		{sampleShare(0), 1, 1, 16, 1, true}, {sampleShare(0), 1, 1, 25, 1, true}, {sampleShare(0), 1, 1, 26, 0, false}, {sampleShare(0), 1, 1, 0, 2, true}, {sampleShare(0), 1, 2, 0, 0, false}, {sampleShare(0), 1, 0, 0, 0, false},
		// A right that is promised all needs nothing; but a supply has to be there.
		{alone, 0, 0, 5, 0, true}, {alone, 0, 0, 6, 0, false}, {alone, 0, 2, 5, 0, true}, {alone, 0, 2, 6, 0, false}, {alone, 0, 1, 0, 0, false}, {alone, 1, 0, 5, 0, true},
		// The supply may be greater than any supply of a share.
		{great, 0, 0, 5, 1, true}, {great, 1, 0, 0, api.MaxVolume + 1, true},
	} {
		if n, is, e := share.Need(x.s, x.right, x.valley, x.day); n != x.want || is != x.is || e != api.OK {
			t.Error(i, n, is, e)
		}
	}
	for i, x := range [][3]int{{2, 1, 12}, {-1, 1, 12}, {0, -1, 12}, {0, 4096, 12}, {0, 1, -1}, {0, 1, 1048577}, {5, 5000, -5}} {
		if n, is, e := share.Need(sampleShare(0), x[0], x[1], x[2]); n != 0 || is || e != api.ErrArg {
			t.Error(i, n, is, e)
		}
	}
	if n, is, e := share.Need(sampleShare(0), 0, 4095, 1048576); n != 0 || is || e != api.OK {
		t.Error(n, is, e)
	}
	if n, is, e := share.Need(api.Share{}, 0, 1, 12); n != 0 || is || e != api.ErrArg {
		t.Error(n, is, e)
	}
}

// P8.6: small shares against more and more water.
func TestSmallNeeds(t *testing.T) {
	r := rand.New(rand.NewSource(86))
	some, none, nothing := 0, 0, 0
	for range 6000 {
		s := randomShare(r, 3, 3, 3)
		if len(s.Rights) == 0 {
			continue
		}
		right, valley, day := r.Intn(len(s.Rights)), between(r, 1, 2), r.Intn(3)
		want, isWanted := needed(s, right, valley, day)
		n, is, e := share.Need(s, right, valley, day)
		if n != want || is != isWanted || e != api.OK {
			t.Fatal(s, right, valley, day, n, is, e, want, isWanted)
		}
		switch {
		case n > 0:
			some++
		case is:
			nothing++
		default:
			none++
		}
	}
	if some < 50 || none < 50 || nothing < 50 {
		t.Error(some, none, nothing)
	}
}

// P8.13: what is needed is enough, and less is not.
func TestNeedIsLeast(t *testing.T) {
	r := rand.New(rand.NewSource(813))
	found := 0
	for _, most := range []int{5, 1000, 1 << 30} {
		for range 100 {
			s := longShare(r, most)
			right := r.Intn(len(s.Rights))
			at := between(r, s.Rights[right].From, s.Rights[right].To)
			n, is, e := share.Need(s, right, 0, at)
			if e != api.OK {
				t.Fatal(s, e)
			}
			if !is {
				n = api.MaxVolume / 2
			}
			isMet := func(more int) bool {
				x := copyShare(s)
				x.Supplies[at].Volume += more
				return promises(t, x)[right] == s.Rights[right].Claim
			}
			if isMet(n) != is || n > 0 && isMet(n-1) {
				t.Fatal(s, right, at, n, is)
			}
			if is && n > 0 {
				found++
			}
		}
	}
	if found < 10 {
		t.Error(found)
	}
}
