package spring_test

import (
	"math"
	"math/rand"
	"slices"
	"testing"

	"snowline/api"
	"snowline/spring"
)

// P6.3: the chapter's third example, and more.
func TestGap(t *testing.T) {
	all := api.Span{Hi: 40}
	for _, x := range []struct {
		day        int
		temp, rain api.Span
	}{
		{10, api.Span{}, api.Span{Lo: 5, Hi: 5}}, {11, api.Span{Lo: -40, Hi: 50}, all}, {12, api.Span{Lo: 10, Hi: 100}, all}, {13, api.Span{Lo: 60, Hi: 60}, api.Span{}},
		{9, api.Span{Lo: -50, Hi: 50}, all}, {7, api.Span{Lo: -150, Hi: 150}, all}, {6, api.Span{Lo: -200, Hi: 200}, all}, {5, api.Span{Lo: -200, Hi: 250}, all},
		{0, api.Span{Lo: -200, Hi: 250}, all}, {14, api.Span{Lo: 10, Hi: 110}, all}, {18, api.Span{Lo: -190, Hi: 250}, all}, {api.MaxDay, api.Span{Lo: -200, Hi: 250}, all},
	} {
		if temp, rain, e := spring.Gap(sample(), sampleLog(), x.day); temp != x.temp || rain != x.rain || e != api.OK {
			t.Errorf("Gap of %d returns %v, %v, %d", x.day, temp, rain, e)
		}
	}
	if temp, rain, e := spring.Gap(sample(), nil, 7); temp != (api.Span{Lo: -200, Hi: 250}) || rain != all || e != api.OK {
		t.Errorf("Gap by no log returns %v, %v, %d", temp, rain, e)
	}
	for _, day := range []int{-1, api.MaxDay + 1, math.MinInt, math.MaxInt} {
		if temp, rain, e := spring.Gap(sample(), sampleLog(), day); temp != (api.Span{}) || rain != (api.Span{}) || e != api.ErrArg {
			t.Errorf("Gap of %d returns %v, %v, %d", day, temp, rain, e)
		}
	}
	still := sample()
	still.Swing = 0
	if temp, rain, e := spring.Gap(still, []api.Weather{{Day: 0, Temp: 7, Rain: 1}}, api.MaxDay); temp != (api.Span{Lo: 7, Hi: 7}) || rain != all || e != api.OK {
		t.Errorf("Gap where it is always as warm returns %v, %v, %d", temp, rain, e)
	}
}

// P6.3
func TestAllowed(t *testing.T) {
	for i, x := range []struct {
		days []api.Weather
		want bool
	}{
		{from(11, 50, 0, 10, 40), true}, {from(11, 51, 0, 10, 0), false}, {from(11, 50, 0, 9, 0), false}, {from(11, -40, 0, 10, 0), true}, {from(11, -41, 0, 9, 0), false},
		{from(10, 0, 5), true}, {from(10, 0, 4), false}, {from(10, 1, 5), false}, {from(9, 50, 0, 0, 5, 50, 0, 100, 0, 60, 0, 110, 0), true}, {from(9, 51, 0), false}, {from(14, 111, 0), false},
		{from(11, 0, 41), false}, {from(11, 0, -1), false}, {from(0, 251, 0), false}, {from(0, -201, 0), false}, {from(0, math.MaxInt, 0, math.MinInt, 0), false}, {from(0, 0, 0, 51, 0), false},
		{from(0, 250, 0, 200, 0), true}, {plain(20, 512), true}, {plain(api.MaxDay-1, 2), true},
	} {
		if is, e := spring.Allowed(sample(), sampleLog(), x.days); is != x.want || e != api.OK {
			t.Error(i, is, e)
		}
	}
	for i, days := range [][]api.Weather{
		nil, {}, plain(20, 513), {{Day: 20}, {Day: 22}}, {{Day: 20}, {Day: 20}}, {{Day: 21}, {Day: 20}}, plain(-1, 2), plain(api.MaxDay, 2), {{Day: math.MaxInt}, {Day: math.MinInt}}, {{Day: 20, Temp: 999}, {Day: 22}},
	} {
		if is, e := spring.Allowed(sample(), sampleLog(), days); is || e != api.ErrArg {
			t.Error(i, is, e)
		}
	}
}

// P6.3
func TestFill(t *testing.T) {
	for i, x := range []struct {
		from, to int
		warm     bool
		want     []api.Weather
	}{
		{10, 14, true, from(10, 0, 5, 50, 0, 100, 0, 60, 0)}, {10, 14, false, from(10, 0, 5, -40, 40, 10, 40, 60, 0)}, {8, 10, true, from(8, 100, 0, 50, 0)}, {13, 15, false, from(13, 60, 0, 10, 40)},
		{12, 13, true, from(12, 100, 0)}, {0, 1, false, from(0, -200, 40)}, {api.MaxDay - 1, api.MaxDay, true, from(api.MaxDay-1, 250, 0)},
	} {
		if l, e := spring.Fill(sample(), sampleLog(), x.from, x.to, x.warm); e != api.OK || !slices.Equal(l, x.want) {
			t.Error(i, l, e)
		}
	}
	if l, e := spring.Fill(sample(), sampleLog(), 5, 517, true); e != api.OK || len(l) != 512 || l[511].Day != 516 {
		t.Error(len(l), e)
	}
	for _, x := range []struct {
		from, to int
		e        api.Errno
	}{
		{11, 11, api.ErrArg}, {12, 11, api.ErrArg}, {-1, 5, api.ErrArg}, {api.MaxDay, api.MaxDay + 1, api.ErrArg}, {0, api.MaxDay + 1, api.ErrArg}, {math.MinInt, math.MaxInt, api.ErrArg}, {-1, 999, api.ErrArg},
		{0, 513, api.ErrLimit}, {0, api.MaxDay, api.ErrLimit},
	} {
		if l, e := spring.Fill(sample(), sampleLog(), x.from, x.to, true); l != nil || e != x.e {
			t.Error(x.from, x.to, l, e)
		}
	}
}

// P6.3, P6.9: logs with few days and temperatures, by all sequences.
func TestGapsByTrying(t *testing.T) {
	const count = 4
	r := rand.New(rand.NewSource(3))
	accepted, refused := 0, 0
	for range 250 {
		c, _ := small(r)
		c.Wettest = min(c.Wettest, 1)
		day := someDay(r, count)
		all := tried(c, day, count, 0)
		l := someOf(r, all[r.Intn(len(all))])
		all = agreeing(all, l)
		gapsTried(t, c, l, all)
		a := r.Intn(count)
		b := min(a+1+r.Intn(2), count)
		parts := map[[2]api.Weather]bool{}
		for _, days := range all {
			parts[pairOf(days[a:b])] = true
		}
		for _, days := range tried(c, day+a, b-a, 1) {
			want := parts[pairOf(days)]
			if is, e := spring.Allowed(c, l, days); is != want || e != api.OK {
				t.Fatalf("%v, %v: Allowed of %v returns %v, %d", c, l, days, is, e)
			}
			if want {
				accepted++
			} else {
				refused++
			}
		}
	}
	if accepted < 1000 || refused < 1000 {
		t.Errorf("%d were accepted, %d refused", accepted, refused)
	}
}

// pairOf returns one or two elements as a key of a map.
func pairOf(days []api.Weather) [2]api.Weather {
	p := [2]api.Weather{days[0], {Day: -1}}
	if len(days) > 1 {
		p[1] = days[1]
	}
	return p
}

// gapsTried fails unless what Gap and Fill return for the days of all sequences that agree with a log is exact.
func gapsTried(t *testing.T, c api.Climate, l []api.Weather, all [][]api.Weather) {
	t.Helper()
	day := all[0][0].Day
	for i := range all[0] {
		temps, rains := api.Span{Lo: math.MaxInt, Hi: math.MinInt}, api.Span{Lo: math.MaxInt, Hi: math.MinInt}
		for _, days := range all {
			temps = api.Span{Lo: min(temps.Lo, days[i].Temp), Hi: max(temps.Hi, days[i].Temp)}
			rains = api.Span{Lo: min(rains.Lo, days[i].Rain), Hi: max(rains.Hi, days[i].Rain)}
		}
		temp, rain, e := spring.Gap(c, l, day+i)
		if temp != temps || rain != rains || e != api.OK {
			t.Fatalf("%v, %v: Gap of %d returns %v, %v, %d", c, l, day+i, temp, rain, e)
		}
		if day+i == api.MaxDay {
			continue
		}
		warm, e := spring.Fill(c, l, day, day+i+1, true)
		cold, g := spring.Fill(c, l, day, day+i+1, false)
		if e != api.OK || g != api.OK || len(warm) != i+1 || len(cold) != i+1 {
			t.Fatalf("%v, %v: Fill returns %v, %d and %v, %d", c, l, warm, e, cold, g)
		}
		if warm[i] != (api.Weather{Day: day + i, Temp: temps.Hi, Rain: rains.Lo}) || cold[i] != (api.Weather{Day: day + i, Temp: temps.Lo, Rain: rains.Hi}) {
			t.Fatalf("%v, %v: Fill returns %v and %v", c, l, warm, cold)
		}
		for _, x := range [][]api.Weather{warm, cold} {
			if is, e := spring.Allowed(c, l, x); !is || e != api.OK {
				t.Fatalf("%v, %v: Allowed of %v, which Fill returns, returns %v, %d", c, l, x, is, e)
			}
		}
	}
}

// P6.3, P6.9, P6.13: long logs.
func TestLongLogs(t *testing.T) {
	r := rand.New(rand.NewSource(4))
	refused := 0
	for range 60 {
		c := someClimate(r)
		day := someDay(r, 700)
		days := someDays(r, c, day, 700)
		l := someOf(r, days)
		if e := spring.CheckLog(c, l); e != api.OK {
			t.Fatalf("%v: CheckLog of %v returns %d", c, l, e)
		}
		a := r.Intn(300)
		part := days[a : a+1+r.Intn(400)]
		if is, e := spring.Allowed(c, l, part); !is || e != api.OK {
			t.Fatalf("%v: Allowed returns %v, %d", c, is, e)
		}
		gapsHold(t, c, l, part)
		end := part[len(part)-1].Day + 1
		if end > api.MaxDay {
			continue
		}
		warm, e := spring.Fill(c, l, part[0].Day, end, true)
		if is, g := spring.Allowed(c, l, warm); !is || e != api.OK || g != api.OK {
			t.Fatalf("%v: Fill returns %d, Allowed of it %v, %d", c, e, is, g)
		}
		warm[r.Intn(len(warm))].Temp++
		if is, e := spring.Allowed(c, l, warm); is || e != api.OK {
			t.Fatalf("%v: Allowed of a day that is too warm returns %v, %d", c, is, e)
		}
		refused++
	}
	if refused < 20 {
		t.Errorf("only %d were refused", refused)
	}
}

// gapsHold fails unless days, which agree with l, are within what Gap returns, also with one of them in the log, which never widens it.
func gapsHold(t *testing.T, c api.Climate, l, days []api.Weather) {
	t.Helper()
	further := days[len(days)/2]
	longer := slices.DeleteFunc(slices.Clone(l), func(w api.Weather) bool { return w.Day == further.Day })
	longer = append(longer, further)
	slices.SortFunc(longer, func(a, b api.Weather) int { return a.Day - b.Day })
	for _, w := range days {
		temp, rain, e := spring.Gap(c, l, w.Day)
		if w.Temp < temp.Lo || w.Temp > temp.Hi || w.Rain < rain.Lo || w.Rain > rain.Hi || e != api.OK {
			t.Fatalf("%v: Gap of %v returns %v, %v, %d", c, w, temp, rain, e)
		}
		nearer, drier, e := spring.Gap(c, longer, w.Day)
		if nearer.Lo < temp.Lo || nearer.Hi > temp.Hi || drier.Lo < rain.Lo || drier.Hi > rain.Hi || e != api.OK {
			t.Fatalf("%v: with one more weather Gap of %v returns %v, %v, %d", c, w, nearer, drier, e)
		}
	}
}

// P6.5
func TestFitsAndLeft(t *testing.T) {
	a, b, far := springOf(3, 60, 0, 80, 9), springOf(4, 61, 0, 80, 9), springOf(9, 0, 0)
	far.Days[0].Day = 40
	for i, x := range []struct {
		s    api.Spring
		want bool
	}{{a, true}, {b, false}, {far, true}, {springOf(1, 60, 1), false}, {api.Spring{Days: from(14, 110, 40)}, true}, {api.Spring{Days: from(14, 111, 40)}, false}, {api.Spring{Days: from(8, 100, 0, 50, 0, 0, 5)}, true}, {api.Spring{Days: from(12, 100, 0, 50, 0)}, false}} {
		if is, e := spring.Fits(sample(), sampleLog(), x.s); is != x.want || e != api.OK {
			t.Error(i, is, e)
		}
	}
	for i, x := range []struct {
		l       []api.Weather
		springs []api.Spring
		want    []int
	}{
		{sampleLog(), []api.Spring{a, b, far}, []int{3, 9}}, {sampleLog()[:1], []api.Spring{a, b, far}, []int{3, 4, 9}}, {nil, []api.Spring{a, b, far}, []int{3, 4, 9}}, {sampleLog(), []api.Spring{b}, nil}, {sampleLog(), nil, nil},
	} {
		if l, e := spring.Left(sample(), x.l, x.springs); !slices.Equal(l, x.want) || e != api.OK {
			t.Error(i, l, e)
		}
	}
	var many []api.Spring
	for no := range 17 {
		many = append(many, springOf(no, 60, 0))
	}
	if l, e := spring.Left(sample(), sampleLog(), many[:16]); len(l) != 16 || e != api.OK {
		t.Error(l, e)
	}
	worse := append(slices.Clone(many), api.Spring{})
	for i, x := range []struct {
		springs []api.Spring
		e       api.Errno
	}{
		{many, api.ErrLimit}, {worse, api.ErrSpring}, {[]api.Spring{b, a}, api.ErrArg}, {[]api.Spring{a, a}, api.ErrArg}, {[]api.Spring{b, a, {}}, api.ErrSpring}, {append(many[1:17:17], many[0]), api.ErrLimit},
	} {
		if l, e := spring.Left(sample(), sampleLog(), x.springs); l != nil || e != x.e {
			t.Error(i, l, e)
		}
	}
}

// P6.5, P6.13: springs fit exactly if their sequences are allowed, and none comes back with a longer log.
func TestLeftByTrying(t *testing.T) {
	r := rand.New(rand.NewSource(5))
	dropped := 0
	for range 500 {
		c, _ := small(r)
		day := someDay(r, 9)
		l := someOf(r, someDays(r, c, day, 9))
		var springs []api.Spring
		var want []int
		for no := range r.Intn(17) {
			first := r.Intn(9)
			s := api.Spring{No: 3 * no, Days: someDays(r, c, day+first, 1+r.Intn(9-first))}
			springs = append(springs, s)
			is, e := spring.Allowed(c, l, s.Days)
			if fits, g := spring.Fits(c, l, s); fits != is || e != api.OK || g != api.OK {
				t.Fatalf("%v, %v: Fits of %v returns %v, %d", c, l, s, fits, g)
			}
			if is {
				want = append(want, s.No)
			}
		}
		left, e := spring.Left(c, l, springs)
		if !slices.Equal(left, want) || e != api.OK {
			t.Fatalf("%v, %v: Left of %v returns %v, %d", c, l, springs, left, e)
		}
		for i := range l {
			fewer, e := spring.Left(c, slices.Delete(slices.Clone(l), i, i+1), springs)
			if e != api.OK || slices.ContainsFunc(left, func(no int) bool { return !slices.Contains(fewer, no) }) {
				t.Fatalf("%v, %v: without the weather %d Left returns %v, %d, not %v", c, l, i, fewer, e, left)
			}
			dropped += len(fewer) - len(left)
		}
	}
	if dropped < 100 {
		t.Errorf("only %d springs were dropped", dropped)
	}
}
