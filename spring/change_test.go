package spring_test

import (
	"math"
	"math/rand"
	"slices"
	"testing"

	"snowline/api"
	"snowline/spring"
)

// P6.4: the chapter's fourth example, and more.
func TestChange(t *testing.T) {
	for _, x := range []struct {
		height, from, to int
		want             api.Span
	}{
		{1000, 10, 12, api.Span{Lo: -15, Hi: 45}}, {1000, 10, 11, api.Span{Lo: 5, Hi: 5}}, {1000, 12, 13, api.Span{Lo: -41, Hi: 0}}, {1000, 11, 13, api.Span{Lo: -61, Hi: 36}},
		{9000, 10, 12, api.Span{Lo: 5, Hi: 45}}, {1500, 13, 14, api.Span{Lo: -12, Hi: 0}}, {1000, 0, 512, api.Span{Lo: -51582, Hi: 20293}}, {1000, api.MaxDay - 1, api.MaxDay, api.Span{Lo: -102, Hi: 40}},
	} {
		if s, e := spring.Change(sample(), sampleLog(), x.height, x.from, x.to); s != x.want || e != api.OK {
			t.Errorf("Change at %d from %d to %d returns %v, %d", x.height, x.from, x.to, s, e)
		}
	}
	for _, x := range []struct {
		height, from, to int
		e                api.Errno
	}{
		{-1, 10, 12, api.ErrArg}, {9001, 10, 12, api.ErrArg}, {0, 12, 12, api.ErrArg}, {0, 12, 11, api.ErrArg}, {0, -1, 11, api.ErrArg}, {0, 12, api.MaxDay + 1, api.ErrArg}, {0, math.MinInt, math.MaxInt, api.ErrArg},
		{0, 0, 513, api.ErrLimit}, {0, 0, api.MaxDay, api.ErrLimit}, {9001, 0, 513, api.ErrArg},
	} {
		if s, e := spring.Change(sample(), sampleLog(), x.height, x.from, x.to); s != (api.Span{}) || e != x.e {
			t.Errorf("Change at %d from %d to %d returns %v, %d", x.height, x.from, x.to, s, e)
		}
	}
}

// P6.4: numbers beyond MaxWater and its opposite are replaced.
func TestChangeIsBounded(t *testing.T) {
	c := api.Climate{Base: 9000, Lapse: 20, Swing: 600, Wettest: 1000, Coldest: -600, Warmest: 600, Factor: api.Span{Lo: 1990, Hi: 2000}}
	if s, e := spring.Change(c, nil, 0, 0, 14); s != (api.Span{Lo: -65536, Hi: 0}) || e != api.OK {
		t.Errorf("Change of what melts returns %v, %d", s, e)
	}
	if s, e := spring.Change(c, nil, 0, 0, 13); s != (api.Span{Lo: -62400, Hi: 0}) || e != api.OK {
		t.Errorf("Change of what just melts returns %v, %d", s, e)
	}
	if s, e := spring.Change(c, nil, 9000, 0, 512); s != (api.Span{Lo: -65536, Hi: 65536}) || e != api.OK {
		t.Errorf("Change of all there can be returns %v, %d", s, e)
	}
	var l []api.Weather
	for day := range 512 {
		l = append(l, api.Weather{Day: day, Temp: -600, Rain: 1000})
	}
	for _, x := range []struct{ days, want int }{{65, 65000}, {66, 65536}, {512, 65536}} {
		if s, e := spring.Change(c, l, 9000, 0, x.days); s != (api.Span{Lo: x.want, Hi: x.want}) || e != api.OK {
			t.Errorf("Change of what falls on %d days returns %v, %d", x.days, s, e)
		}
	}
	c.Coldest = 600
	for i := range l {
		l[i].Temp = 600
	}
	if s, e := spring.Change(c, l, 0, 0, 512); s != (api.Span{Lo: -65536, Hi: 0}) || e != api.OK {
		t.Errorf("Change where it is warm returns %v, %d", s, e)
	}
}

// P6.4
func TestChanges(t *testing.T) {
	b := sampleScene().Basin
	want := []api.Change{{Cell: 2, From: 10, To: 11, Lo: 5, Hi: 5}, {Cell: 5, From: 10, To: 11, Lo: 5, Hi: 5}, {Cell: 2, From: 11, To: 13, Lo: -36, Hi: 80}, {Cell: 5, From: 11, To: 13, Lo: -16, Hi: 80}}
	if l, e := spring.Changes(sample(), sampleLog(), b, []int{10, 11, 13}); !slices.Equal(l, want) || e != api.OK {
		t.Errorf("Changes returns %v, %d", l, e)
	}
	if l, e := spring.Changes(sample(), sampleLog(), b, []int{10}); l != nil || e != api.OK {
		t.Errorf("Changes of one day returns %v, %d", l, e)
	}
	var dates []int
	for i := range 17 {
		dates = append(dates, 512*i)
	}
	l, e := spring.Changes(sample(), sampleLog(), b, dates[:16])
	if len(l) != 30 || e != api.OK {
		t.Errorf("Changes of all days there can be returns %v, %d", l, e)
	}
	for i, x := range l {
		s, e := spring.Change(sample(), sampleLog(), b.Cells[i%2].Height, dates[i/2], dates[i/2+1])
		if x != (api.Change{Cell: b.Cells[i%2].No, From: dates[i/2], To: dates[i/2+1], Lo: s.Lo, Hi: s.Hi}) || e != api.OK {
			t.Errorf("Changes returns %v, Change %v, %d", x, s, e)
		}
	}
	for i, x := range []struct {
		days []int
		e    api.Errno
	}{
		{nil, api.ErrArg}, {dates, api.ErrArg}, {[]int{5, 5}, api.ErrArg}, {[]int{6, 5}, api.ErrArg}, {[]int{-1, 5}, api.ErrArg}, {[]int{-1}, api.ErrArg}, {[]int{api.MaxDay + 1}, api.ErrArg}, {[]int{9, api.MaxDay + 1}, api.ErrArg},
		{[]int{math.MinInt, math.MaxInt}, api.ErrArg}, {[]int{0, 513}, api.ErrLimit}, {[]int{0, 3, 516}, api.ErrLimit}, {[]int{0, 600, 500}, api.ErrArg}, {[]int{0, 600, api.MaxDay + 1}, api.ErrArg},
	} {
		if l, e := spring.Changes(sample(), sampleLog(), b, x.days); l != nil || e != x.e {
			t.Error(i, l, e)
		}
	}
	if l, e := spring.Changes(sample(), nil, b, []int{api.MaxDay}); l != nil || e != api.OK {
		t.Errorf("Changes of the last day returns %v, %d", l, e)
	}
}

// P6.4, P6.10, P6.13: logs with few days, by all sequences, factors and amounts of snow.
func TestChangesByTrying(t *testing.T) {
	const count = 3
	r := rand.New(rand.NewSource(6))
	melted, grown := 0, 0
	for range 250 {
		c, height := small(r)
		day := someDay(r, count+1)
		all := tried(c, day, count, 0)
		l := someOf(r, all[r.Intn(len(all))])
		a := r.Intn(count)
		b := a + 1 + r.Intn(count-a)
		want := changeTried(c, agreeing(all, l), height, a, b)
		s, e := spring.Change(c, l, height, day+a, day+b)
		if s != want || e != api.OK {
			t.Fatalf("%v, %v at %d: Change from %d to %d returns %v, %d, not %v", c, l, height, day+a, day+b, s, e, want)
		}
		if s.Lo < 0 {
			melted++
		}
		if s.Hi > 0 {
			grown++
		}
		for i := range l {
			wider, e := spring.Change(c, slices.Delete(slices.Clone(l), i, i+1), height, day+a, day+b)
			if wider.Lo > s.Lo || wider.Hi < s.Hi || e != api.OK {
				t.Fatalf("%v, %v: without the weather %d Change returns %v, %d, not %v", c, l, i, wider, e, s)
			}
		}
	}
	if melted < 50 || grown < 50 {
		t.Errorf("%d times snow can have melted, %d times it can have grown", melted, grown)
	}
}

// P6.4, P6.10: logs that leave one sequence only, by all factors and amounts of snow.
func TestChangesOfFactors(t *testing.T) {
	c := sample()
	c.Factor.Hi = 450
	if s, e := spring.Change(c, from(10, 0, 40, 50, 0), 1000, 10, 12); s != (api.Span{Lo: 18, Hi: 20}) || e != api.OK {
		t.Errorf("Change returns %v, %d", s, e)
	}
	r := rand.New(rand.NewSource(14))
	apart := 0
	for range 2000 {
		c, height := thawing(r)
		c.Wettest = 20
		day := someDay(r, 9)
		l := someDays(r, c, day, 1+r.Intn(8))
		a := r.Intn(len(l))
		b := min(a+1+r.Intn(len(l)), len(l))
		want := changeTried(c, [][]api.Weather{l}, height, a, b)
		s, e := spring.Change(c, l, height, day+a, day+b)
		if s != want || e != api.OK {
			t.Fatalf("%v, %v at %d: Change from %d to %d returns %v, %d, not %v", c, l, height, day+a, day+b, s, e, want)
		}
		if s.Lo < s.Hi && s.Hi > 0 {
			apart++
		}
	}
	if apart < 100 {
		t.Errorf("only %d times did snow remain that can have melted", apart)
	}
}

// changeTried returns the least and the greatest change between two days of sequences, given by their indices, over all factors and amounts of snow.
func changeTried(c api.Climate, all [][]api.Weather, height, a, b int) api.Span {
	s := api.Span{Lo: math.MaxInt, Hi: math.MinInt}
	for _, days := range all {
		for factor := c.Factor.Lo; factor <= c.Factor.Hi; factor++ {
			for snow := range 15 * (b - a) { // In a day at most 14 millimetres melt.
				_, left := released(c, days[a:b], height, factor, snow)
				s = api.Span{Lo: min(s.Lo, left-snow), Hi: max(s.Hi, left-snow)}
			}
		}
	}
	return s
}

// P6.10: long sequences that agree with a log.
func TestLongChanges(t *testing.T) {
	r := rand.New(rand.NewSource(7))
	for range 200 {
		c := someClimate(r)
		c.Wettest = min(c.Wettest, 100)
		day := someDay(r, 600)
		days := someDays(r, c, day, 550)
		l := someOf(r, days)
		a := r.Intn(300)
		b := a + 1 + r.Intn(200)
		height := r.Intn(9001)
		s, e := spring.Change(c, l, height, day+a, day+b)
		if e != api.OK {
			t.Fatalf("Change returns %d", e)
		}
		for range 10 {
			snow, factor := r.Intn(r.Intn(70000)+1), c.Factor.Lo+r.Intn(c.Factor.Hi-c.Factor.Lo+1)
			_, left := released(c, days[a:b], height, factor, snow)
			if change := left - snow; change < s.Lo && s.Lo > -api.MaxWater || change > s.Hi && s.Hi < api.MaxWater {
				t.Fatalf("%v: snow changes by %d, and Change returns %v", c, change, s)
			}
		}
	}
}
