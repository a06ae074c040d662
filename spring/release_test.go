package spring_test

import (
	"math"
	"math/rand"
	"testing"

	"snowline/api"
	"snowline/spring"
)

// P6.6: the chapter's fifth example, and more.
func TestRelease(t *testing.T) {
	s := springOf(3, 50, 10, 20, 4, 60, 0)
	for _, x := range []struct{ height, water, factor, day, comes, left int }{
		{1500, 5, 400, 13, 0, 5}, {1500, 5, 400, 14, 15, 0}, {1500, 20, 400, 14, 18, 12}, {1500, 20, 400, 15, 18, 16}, {1500, 20, 400, 16, 30, 4}, {1500, 0, 400, 16, 14, 0}, {1500, 0, 400, 15, 10, 4},
		{1500, 20, 0, 16, 10, 24}, {9000, 65536, 2000, 16, 0, 65550}, {0, 65536, 2000, 16, 634, 64916}, {0, 0, 2000, 16, 14, 0}, {1500, 65536, 400, 13, 0, 65536},
	} {
		if comes, left, e := spring.Release(sample(), s, x.height, x.water, x.factor, x.day); comes != x.comes || left != x.left || e != api.OK {
			t.Errorf("Release of %v returns %d, %d, %d", x, comes, left, e)
		}
	}
	for _, x := range [][4]int{
		{-1, 0, 0, 13}, {9001, 0, 0, 13}, {0, -1, 0, 13}, {0, 65537, 0, 13}, {0, 0, -1, 13}, {0, 0, 2001, 13}, {0, 0, 0, 12}, {0, 0, 0, 17}, {0, 0, 0, math.MaxInt}, {0, 0, 0, math.MinInt}, {math.MaxInt, math.MaxInt, math.MaxInt, 13},
	} {
		if comes, left, e := spring.Release(sample(), s, x[0], x[1], x[2], x[3]); comes != 0 || left != 0 || e != api.ErrArg {
			t.Errorf("Release of %v returns %d, %d, %d", x, comes, left, e)
		}
	}
	last := api.Spring{Days: []api.Weather{{Day: api.MaxDay, Temp: 100, Rain: 7}}}
	if comes, left, e := spring.Release(sample(), last, 1000, 50, 400, api.MaxDay+1); comes != 47 || left != 10 || e != api.OK {
		t.Errorf("Release by the day after the last one there is returns %d, %d, %d", comes, left, e)
	}
	if comes, left, e := spring.Release(sample(), last, 1000, 50, 400, api.MaxDay+2); comes != 0 || left != 0 || e != api.ErrArg {
		t.Errorf("Release behind it returns %d, %d, %d", comes, left, e)
	}
}

// P6.6, P6.11, P6.13: by the chapter's words; and the balance, what more snow and a greater factor do, and parts one after the other.
func TestReleases(t *testing.T) {
	r := rand.New(rand.NewSource(8))
	for range 3000 {
		c := someClimate(r)
		if r.Intn(2) == 0 {
			c.Wettest = r.Intn(20)
		}
		s := api.Spring{No: r.Intn(4096), Days: someDays(r, c, someDay(r, 60), 1+r.Intn(60))}
		height, water, factor := r.Intn(9001), r.Intn(r.Intn(65537)+1), r.Intn(2001)
		n := r.Intn(len(s.Days) + 1)
		day := s.Days[0].Day + n
		comes, left, e := spring.Release(c, s, height, water, factor, day)
		want, rest := released(c, s.Days[:n], height, factor, water)
		if comes != want || left != rest || e != api.OK {
			t.Fatalf("%v, %v: Release of %d by %d returns %d, %d, %d, not %d, %d", c, s, water, day, comes, left, e, want, rest)
		}
		fallen := 0
		for _, w := range s.Days[:n] {
			fallen += w.Rain
		}
		if comes+left != water+fallen {
			t.Fatalf("%v, %v: of %d and %d come %d, and %d are left", c, s, water, fallen, comes, left)
		}
		further, more, _ := spring.Release(c, s, height, min(water+r.Intn(99), api.MaxWater), factor, day)
		if further < comes || more < left {
			t.Fatalf("%v, %v: of more than %d come %d, not %d, and %d are left, not %d", c, s, water, further, comes, more, left)
		}
		further, _, _ = spring.Release(c, s, height, water, min(factor+r.Intn(99), api.MaxFactor), day)
		if further < comes {
			t.Fatalf("%v, %v: with a greater factor than %d come %d, not %d", c, s, factor, further, comes)
		}
		inParts(t, c, s, height, water, factor, n)
	}
}

// inParts fails unless what comes from all days is what comes from some of them and, of what is left then, from the others.
func inParts(t *testing.T, c api.Climate, s api.Spring, height, water, factor, n int) {
	t.Helper()
	day := s.Days[0].Day + n
	first, between, _ := spring.Release(c, s, height, water, factor, day)
	all, left, _ := spring.Release(c, s, height, water, factor, s.Days[0].Day+len(s.Days))
	if n == len(s.Days) || between > api.MaxWater {
		return
	}
	rest := api.Spring{No: s.No, Days: s.Days[n:]}
	second, last, e := spring.Release(c, rest, height, between, factor, s.Days[0].Day+len(s.Days))
	if first+second != all || last != left || e != api.OK {
		t.Fatalf("%v, %v: by the day %d come %d, and then %d, not %d; %d are left, not %d, %d", c, s, day, first, second, all, last, left, e)
	}
}
