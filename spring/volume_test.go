package spring_test

import (
	"math"
	"math/rand"
	"slices"
	"testing"

	"snowline/api"
	"snowline/basin"
	"snowline/spring"
)

// never is the day by which a volume comes that does not come by the end of a spring.
const never = 1048578

// P6.7
func TestVolume(t *testing.T) {
	s := springOf(1, 50, 10, 100, 0)
	for i, x := range []struct {
		cells    []int
		from, to int
		want     api.Span
	}{
		{[]int{2}, 13, 14, api.Span{Lo: 45, Hi: 54}}, {[]int{5}, 13, 14, api.Span{}}, {[]int{2, 5}, 13, 15, api.Span{Lo: 205, Hi: 250}}, {[]int{5}, 14, 15, api.Span{Lo: 160, Hi: 160}}, {[]int{2}, 14, 15, api.Span{Hi: 36}},
		{[]int{2}, 14, 14, api.Span{}}, {[]int{2, 5}, 13, 13, api.Span{}}, {[]int{2, 5}, 15, 15, api.Span{}},
	} {
		if v, e := spring.Volume(sample(), s, sampleScene(), x.cells, x.from, x.to); v != x.want || e != api.OK {
			t.Error(i, v, e)
		}
	}
}

// oneCell is the scene in which the cell 2, at the base of the sample, has so much water on the day 13.
func oneCell(water int) api.Scene {
	b := api.Basin{Cells: []api.Cell{{No: 2, Height: 1000, Area: 1}}, Deep: 65536}
	return api.Scene{Basin: b, Days: []int{13}, Sights: []api.Sight{{No: 1, Cell: 2, Day: 13, Lo: water, Hi: water}}}
}

// P6.7: what melts earlier with a greater factor does not melt later; in between, most can come with a factor that is neither the least nor the greatest.
func TestVolumeOfFactors(t *testing.T) {
	c := sample()
	c.Factor = api.Span{Lo: 400, Hi: 450}
	for i, x := range []struct {
		s        api.Spring
		water    int
		from, to int
		want     api.Span
	}{
		{springOf(1, 50, 0, 100, 0), 25, 14, 15, api.Span{Lo: 3, Hi: 5}},
		{springOf(1, 50, 0, 100, 0), 25, 13, 14, api.Span{Lo: 20, Hi: 22}},
		{springOf(1, 50, 0, 100, 0), 25, 13, 15, api.Span{Lo: 25, Hi: 25}},
		{springOf(1, 50, 0, 50, 0), 42, 14, 15, api.Span{Lo: 20, Hi: 21}},
		{springOf(1, 50, 0, 50, 0), 40, 14, 15, api.Span{Lo: 18, Hi: 20}},
		{springOf(1, 50, 0, 50, 0), 44, 14, 15, api.Span{Lo: 20, Hi: 22}},
	} {
		if v, e := spring.Volume(c, x.s, oneCell(x.water), []int{2}, x.from, x.to); v != x.want || e != api.OK {
			t.Error(i, v, e)
		}
	}
}

// P6.7
func TestVolumes(t *testing.T) {
	s, u := springOf(1, 50, 10, 100, 0), springOf(1, 0, 10, 50, 0)
	for i, x := range []struct {
		springs []api.Spring
		want    api.Span
	}{{[]api.Spring{s, u}, api.Span{Lo: 24, Hi: 90}}, {[]api.Spring{u, s}, api.Span{Lo: 24, Hi: 90}}, {[]api.Spring{s}, api.Span{Lo: 45, Hi: 90}}, {[]api.Spring{u, u}, api.Span{Lo: 24, Hi: 24}}, {slices.Repeat([]api.Spring{s}, 16), api.Span{Lo: 45, Hi: 90}}} {
		if v, e := spring.Volumes(sample(), x.springs, sampleScene(), []int{2}, 13, 15); v != x.want || e != api.OK {
			t.Error(i, v, e)
		}
	}
}

// P6.7: all else that functions do not take.
func TestVolumeErrors(t *testing.T) {
	s, short := springOf(1, 50, 10, 100, 0), springOf(2, 50, 10)
	other := s
	other.Days = from(12, 50, 10, 100, 0)
	many := slices.Repeat([]api.Spring{s}, 17)
	wet := sampleScene()
	wet.Sights[0].Lo = 65537
	crowded := sampleScene()
	crowded.Changes = make([]api.Change, 257)
	ends := sampleScene()
	ends.Days = []int{12, 13, 14}
	for i, x := range []struct {
		springs  []api.Spring
		x        api.Scene
		cells    []int
		from, to int
		e        api.Errno
	}{
		{[]api.Spring{s}, sampleScene(), nil, 13, 14, api.ErrArg}, {[]api.Spring{s}, sampleScene(), []int{5, 2}, 13, 14, api.ErrArg}, {[]api.Spring{s}, sampleScene(), []int{2, 2}, 13, 14, api.ErrArg}, {[]api.Spring{s}, sampleScene(), []int{3}, 13, 14, api.ErrArg},
		{[]api.Spring{s}, sampleScene(), []int{2, 6}, 13, 14, api.ErrArg}, {[]api.Spring{s}, sampleScene(), []int{2}, 12, 14, api.ErrArg}, {[]api.Spring{s}, sampleScene(), []int{2}, 13, 16, api.ErrArg}, {[]api.Spring{s}, sampleScene(), []int{2}, 15, 14, api.ErrArg},
		{[]api.Spring{s}, sampleScene(), []int{2}, math.MinInt, math.MaxInt, api.ErrArg}, {[]api.Spring{s}, ends, []int{2}, 13, 14, api.ErrArg}, {[]api.Spring{other}, sampleScene(), []int{2}, 13, 14, api.ErrArg}, {[]api.Spring{s, other}, sampleScene(), []int{2}, 13, 14, api.ErrArg},
		{[]api.Spring{s, short}, sampleScene(), []int{2}, 13, 15, api.ErrArg}, {[]api.Spring{s, short}, sampleScene(), []int{2}, 13, 14, api.OK}, {[]api.Spring{s}, clashing(), []int{2}, 13, 14, api.ErrClash}, {[]api.Spring{s}, clashing(), []int{2}, 13, 13, api.ErrClash},
		{nil, sampleScene(), []int{2}, 13, 14, api.ErrNone}, {nil, clashing(), nil, 14, 13, api.ErrNone}, {nil, wet, []int{2}, 13, 14, api.ErrSight}, {many, wet, []int{2}, 13, 14, api.ErrLimit}, {append(many, api.Spring{}), wet, []int{2}, 13, 14, api.ErrSpring},
		{[]api.Spring{s}, crowded, []int{2}, 13, 14, api.ErrLimit}, {[]api.Spring{s}, api.Scene{Basin: sampleScene().Basin}, []int{2}, 13, 14, api.ErrArg},
	} {
		if v, e := spring.Volumes(sample(), x.springs, x.x, x.cells, x.from, x.to); e != x.e || e != api.OK && v != (api.Span{}) {
			t.Errorf("%d: Volumes returns %v, %d", i, v, e)
		}
		if len(x.springs) != 1 {
			continue
		}
		if v, e := spring.Volume(sample(), x.springs[0], x.x, x.cells, x.from, x.to); e != x.e || v != (api.Span{}) {
			t.Errorf("%d: Volume returns %v, %d", i, v, e)
		}
	}
	bad := sample()
	bad.Lapse = -1
	if v, e := spring.Volumes(bad, nil, wet, nil, 0, 0); v != (api.Span{}) || e != api.ErrClimate {
		t.Errorf("Volumes in a climate that is none returns %v, %d", v, e)
	}
	for i, x := range []struct {
		s      api.Spring
		x      api.Scene
		cells  []int
		volume int
		e      api.Errno
	}{
		{s, sampleScene(), nil, 0, api.ErrArg}, {s, sampleScene(), []int{5, 2}, 0, api.ErrArg}, {s, sampleScene(), []int{2}, -1, api.ErrArg}, {s, sampleScene(), []int{2}, 1<<40 + 1, api.ErrArg}, {s, ends, []int{2}, 0, api.ErrArg}, {other, sampleScene(), []int{2}, 0, api.ErrArg},
		{s, clashing(), []int{2}, 0, api.ErrClash}, {s, wet, []int{2}, 0, api.ErrSight}, {api.Spring{}, wet, []int{2}, 0, api.ErrSpring},
	} {
		if w, is, e := spring.When(sample(), x.s, x.x, x.cells, x.volume); w != (api.Span{}) || is || e != x.e {
			t.Errorf("%d: When returns %v, %v, %d", i, w, is, e)
		}
	}
}

// P6.7
func TestWhen(t *testing.T) {
	s := springOf(1, 50, 10, 100, 0)
	for _, x := range []struct {
		volume int
		want   api.Span
		is     bool
	}{
		{0, api.Span{Lo: 13, Hi: 13}, true}, {1, api.Span{Lo: 14, Hi: 14}, true}, {45, api.Span{Lo: 14, Hi: 14}, true}, {46, api.Span{Lo: 14, Hi: never}, true}, {54, api.Span{Lo: 14, Hi: never}, true}, {55, api.Span{Lo: 15, Hi: never}, true},
		{90, api.Span{Lo: 15, Hi: never}, true}, {91, api.Span{}, false}, {1 << 40, api.Span{}, false},
	} {
		if w, is, e := spring.When(sample(), s, sampleScene(), []int{2}, x.volume); w != x.want || is != x.is || e != api.OK {
			t.Errorf("When of %d returns %v, %v, %d", x.volume, w, is, e)
		}
	}
	last := api.Spring{Days: []api.Weather{{Day: api.MaxDay, Rain: 7, Temp: 50}}}
	x := sampleScene()
	x.Days, x.Sights = []int{api.MaxDay}, nil
	for _, y := range []struct {
		volume int
		want   api.Span
	}{{21, api.Span{Lo: api.MaxDay + 1, Hi: api.MaxDay + 1}}, {22, api.Span{Lo: api.MaxDay + 1, Hi: never}}} {
		if w, is, e := spring.When(sample(), last, x, []int{2}, y.volume); w != y.want || !is || e != api.OK {
			t.Errorf("When of %d on the last day there is returns %v, %v, %d", y.volume, w, is, e)
		}
	}
}

// P6.7, P6.12: small scenes with all their fields, and all factors.
func TestVolumesByTrying(t *testing.T) {
	r := rand.New(rand.NewSource(10))
	wide, clashes := 0, 0
	for range 600 {
		c, height := thawing(r)
		last := r.Intn(20)
		x := someScene(r, c, height, last)
		cells := someCells(r, x)
		var springs []api.Spring
		for no := range 1 + r.Intn(3) {
			springs = append(springs, api.Spring{No: 9 - no, Days: someDays(r, c, last, 1+r.Intn(4))})
		}
		all := fieldsOf(x)
		if len(all) == 0 {
			clashes++
			if v, e := spring.Volumes(c, springs, x, cells, last, last+1); v != (api.Span{}) || e != api.ErrClash {
				t.Fatalf("%v: Volumes returns %v, %d", x, v, e)
			}
			continue
		}
		count := 4
		for _, s := range springs {
			count = min(count, len(s.Days))
		}
		a := r.Intn(count)
		from, to := last+a, last+a+r.Intn(count-a+1)
		together := api.Span{Lo: math.MaxInt, Hi: math.MinInt}
		for _, s := range springs {
			want := volumeTried(c, s, x, cells, all, from, to)
			if v, e := spring.Volume(c, s, x, cells, from, to); v != want || e != api.OK {
				t.Fatalf("%v, %v, %v: Volume from %d to %d returns %v, %d, not %v", c, s, x, from, to, v, e, want)
			}
			together = api.Span{Lo: min(together.Lo, want.Lo), Hi: max(together.Hi, want.Hi)}
		}
		if v, e := spring.Volumes(c, springs, x, cells, from, to); v != together || e != api.OK {
			t.Fatalf("%v, %v, %v: Volumes from %d to %d returns %v, %d, not %v", c, springs, x, from, to, v, e, together)
		}
		if together.Lo < together.Hi {
			wide++
		}
	}
	if wide < 100 || clashes < 10 {
		t.Errorf("%d volumes were wide, %d scenes allowed nothing", wide, clashes)
	}
}

// volumeTried returns the least and the greatest volume over all fields and factors.
func volumeTried(c api.Climate, s api.Spring, x api.Scene, cells []int, all [][][]int, from, to int) api.Span {
	v := api.Span{Lo: math.MaxInt, Hi: math.MinInt}
	for _, f := range all {
		for factor := c.Factor.Lo; factor <= c.Factor.Hi; factor++ {
			one := volumeThere(c, s, x, cells, f, factor, to) - volumeThere(c, s, x, cells, f, factor, from)
			v = api.Span{Lo: min(v.Lo, one), Hi: max(v.Hi, one)}
		}
	}
	return v
}

// P6.7: small scenes with all their fields, and all factors.
func TestWhenByTrying(t *testing.T) {
	r := rand.New(rand.NewSource(11))
	apart, missed, none := 0, 0, 0
	for range 400 {
		c, height := thawing(r)
		last := r.Intn(20)
		x := someScene(r, c, height, last)
		cells := someCells(r, x)
		s := api.Spring{Days: someDays(r, c, last, 1+r.Intn(5))}
		all := fieldsOf(x)
		if len(all) == 0 {
			continue
		}
		for range 5 {
			volume := r.Intn(r.Intn(200) + 1)
			want := whenTried(c, s, x, cells, all, volume)
			is := want.Lo != never
			switch {
			case !is:
				want = api.Span{}
				none++
			case want.Hi == never:
				missed++
			case want.Lo < want.Hi:
				apart++
			}
			if w, can, e := spring.When(c, s, x, cells, volume); w != want || can != is || e != api.OK {
				t.Fatalf("%v, %v, %v: When of %d returns %v, %v, %d, not %v", c, s, x, volume, w, can, e, want)
			}
		}
	}
	if apart < 50 || missed < 50 || none < 50 {
		t.Errorf("%d times it came on several days, %d times not always, %d times not at all", apart, missed, none)
	}
}

// whenTried returns the first and the last day by which a volume comes, over all fields and factors, never if it does not come.
func whenTried(c api.Climate, s api.Spring, x api.Scene, cells []int, all [][][]int, volume int) api.Span {
	w := api.Span{Lo: math.MaxInt}
	for _, f := range all {
		for factor := c.Factor.Lo; factor <= c.Factor.Hi; factor++ {
			day := s.Days[0].Day
			end := day + len(s.Days)
			for day <= end && volumeThere(c, s, x, cells, f, factor, day) < volume {
				day++
			}
			if day > end {
				day = never
			}
			w = api.Span{Lo: min(w.Lo, day), Hi: max(w.Hi, day)}
		}
	}
	return w
}

// long returns a climate, springs of the greatest length from the day 100 on, and a scene of the greatest size that ends on it.
func long(r *rand.Rand) (api.Climate, []api.Spring, api.Scene) {
	c := someClimate(r)
	c.Wettest = r.Intn(50)
	var springs []api.Spring
	for no := range api.MaxSprings {
		springs = append(springs, api.Spring{No: no, Days: someDays(r, c, 100, api.MaxWeather)})
	}
	x := api.Scene{Basin: api.Basin{Gain: 100, Slack: 50, Deep: 1 + r.Intn(65536)}, Days: []int{90, 100}}
	for no := range api.MaxCells {
		x.Basin.Cells = append(x.Basin.Cells, api.Cell{No: no, Height: 700 * no, Area: 1 + r.Intn(4096)})
		if no > 0 {
			x.Basin.Pairs = append(x.Basin.Pairs, [2]int{no - 1, no})
		}
	}
	x.Changes = append(x.Changes, api.Change{Cell: 3, From: 90, To: 100, Lo: -5, Hi: 5})
	x.Sights = append(x.Sights, api.Sight{No: 7, Cell: 3, Day: 90, Lo: 0, Hi: r.Intn(x.Basin.Deep + 1)})
	return c, springs, x
}

// P6.12: scenes and springs of the greatest size. Each volume is within what is returned, and both ends are attained.
func TestLongVolumes(t *testing.T) {
	r := rand.New(rand.NewSource(12))
	for range 3 {
		c, springs, x := long(r)
		cells := someCells(r, x)
		from := 100 + r.Intn(api.MaxWeather)
		to := from + r.Intn(100+api.MaxWeather-from+1)
		v, e := spring.Volumes(c, springs, x, cells, from, to)
		if e != api.OK {
			t.Fatalf("Volumes returns %d", e)
		}
		least, _ := basin.Least(x)
		greatest, _ := basin.Greatest(x)
		middle := between(t, x, least, greatest)
		attained := api.Span{Lo: math.MaxInt}
		for _, s := range springs {
			one := volumeTried(c, s, x, cells, [][][]int{least, greatest}, from, to)
			attained = api.Span{Lo: min(attained.Lo, one.Lo), Hi: max(attained.Hi, one.Hi)}
			if one := volumeTried(c, s, x, cells, [][][]int{middle}, from, to); one.Lo < v.Lo || one.Hi > v.Hi {
				t.Fatalf("%v comes from some field, and Volumes returns %v", one, v)
			}
		}
		if v != attained {
			t.Fatalf("Volumes returns %v, and attained are %v", v, attained)
		}
	}
}

// between returns a field that x allows between two others.
func between(t *testing.T, x api.Scene, least, greatest [][]int) [][]int {
	t.Helper()
	var f [][]int
	for day := range least {
		var water []int
		for i := range least[day] {
			water = append(water, (least[day][i]+greatest[day][i])/2)
		}
		f = append(f, water)
	}
	if e := basin.CheckField(x, f); e != api.OK {
		t.Fatalf("CheckField returns %d", e)
	}
	return f
}

// P6.13: in one field and with one factor, what comes by way of a day is the sum of both parts.
func TestVolumeInParts(t *testing.T) {
	r := rand.New(rand.NewSource(13))
	for range 300 {
		c := someClimate(r)
		c.Factor.Hi = c.Factor.Lo
		x := sampleScene()
		for i := range x.Sights {
			water := r.Intn(x.Basin.Deep + 1)
			x.Sights[i].Lo, x.Sights[i].Hi = water, water
		}
		s := api.Spring{Days: someDays(r, c, 13, 1+r.Intn(30))}
		days := []int{13 + r.Intn(len(s.Days)+1), 13 + r.Intn(len(s.Days)+1), 13 + r.Intn(len(s.Days)+1)}
		slices.Sort(days)
		cells := someCells(r, x)
		a, e := spring.Volume(c, s, x, cells, days[0], days[1])
		b, g := spring.Volume(c, s, x, cells, days[1], days[2])
		all, h := spring.Volume(c, s, x, cells, days[0], days[2])
		if a.Lo != a.Hi || b.Lo != b.Hi || all != (api.Span{Lo: a.Lo + b.Lo, Hi: a.Hi + b.Hi}) || e != api.OK || g != api.OK || h != api.OK {
			t.Fatalf("%v, %v: Volume by %v returns %v and %v, and %v", c, s, days, a, b, all)
		}
	}
}
