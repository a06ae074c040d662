package spring_test

import (
	"math"
	"math/rand"
	"testing"

	"snowline/api"
	"snowline/spring"
)

// P6.2: the chapter's first example, and more.
func TestAt(t *testing.T) {
	for _, x := range []struct{ temp, height, want int }{
		{30, 1500, 0}, {30, 1490, 1}, {30, 900, 36}, {30, 1000, 30}, {30, 1001, 30}, {30, 1016, 30}, {30, 1017, 29}, {30, 999, 31}, {30, 984, 31}, {30, 983, 32},
		{600, 0, 660}, {-600, 9000, -1080}, {251, 1000, 251},
	} {
		if n, e := spring.At(sample(), x.temp, x.height); n != x.want || e != api.OK {
			t.Errorf("At of %d at %d returns %d, %d", x.temp, x.height, n, e)
		}
	}
	for _, x := range [][2]int{{601, 0}, {-601, 0}, {0, -1}, {0, 9001}, {math.MaxInt, 0}, {0, math.MinInt}} {
		if n, e := spring.At(sample(), x[0], x[1]); n != 0 || e != api.ErrArg {
			t.Errorf("At of %v returns %d, %d", x, n, e)
		}
	}
}

// P6.2
func TestFrost(t *testing.T) {
	for _, x := range []struct{ temp, want int }{{30, 1500}, {0, 1000}, {1, 1017}, {-1, 984}, {-60, 0}, {-61, 0}, {-59, 17}, {-600, 0}, {480, 9000}, {479, 8984}} {
		if n, e := spring.Frost(sample(), x.temp); n != x.want || e != api.OK {
			t.Errorf("Frost of %d returns %d, %d", x.temp, n, e)
		}
	}
	for _, x := range []struct {
		temp int
		e    api.Errno
	}{{481, api.ErrNone}, {600, api.ErrNone}, {601, api.ErrArg}, {-601, api.ErrArg}, {math.MaxInt, api.ErrArg}} {
		if n, e := spring.Frost(sample(), x.temp); n != 0 || e != x.e {
			t.Errorf("Frost of %d returns %d, %d", x.temp, n, e)
		}
	}
	still := sample()
	still.Lapse = 0
	if n, e := spring.Frost(still, 0); n != 0 || e != api.OK {
		t.Errorf("Frost where it is nowhere colder returns %d, %d", n, e)
	}
	if n, e := spring.Frost(still, 1); n != 0 || e != api.ErrNone {
		t.Errorf("Frost where it freezes nowhere returns %d, %d", n, e)
	}
	high := sample()
	high.Base, high.Lapse = 8001, 20
	if n, e := spring.Frost(high, 199); n != 8996 || e != api.OK {
		t.Errorf("Frost just below the greatest height returns %d, %d", n, e)
	}
	if n, e := spring.Frost(high, 200); n != 0 || e != api.ErrNone {
		t.Errorf("Frost just above the greatest height returns %d, %d", n, e)
	}
}

// P6.2: the chapter's second example, and more.
func TestSnowAndMelt(t *testing.T) {
	w := api.Weather{Day: 3, Temp: 50, Rain: 10}
	for _, x := range []struct{ height, factor, snow, rain, melt int }{
		{1500, 400, 0, 10, 8}, {2000, 400, 10, 0, 0}, {1833, 2000, 0, 10, 2}, {1833, 999, 0, 10, 0}, {1833, 1000, 0, 10, 1}, {1834, 2000, 10, 0, 0}, {1000, 410, 0, 10, 20}, {1000, 0, 0, 10, 0}, {0, 2000, 0, 10, 220},
	} {
		snow, rain, e := spring.Snow(sample(), w, x.height)
		melt, g := spring.Melt(sample(), w, x.height, x.factor)
		if snow != x.snow || rain != x.rain || e != api.OK || melt != x.melt || g != api.OK {
			t.Errorf("at %d: Snow returns %d, %d, %d and Melt %d, %d", x.height, snow, rain, e, melt, g)
		}
	}
	for _, height := range []int{-1, 9001, math.MinInt} {
		if snow, rain, e := spring.Snow(sample(), w, height); snow != 0 || rain != 0 || e != api.ErrArg {
			t.Errorf("Snow at %d returns %d, %d, %d", height, snow, rain, e)
		}
		if melt, e := spring.Melt(sample(), w, height, 400); melt != 0 || e != api.ErrArg {
			t.Errorf("Melt at %d returns %d, %d", height, melt, e)
		}
	}
	for _, factor := range []int{-1, 2001, math.MaxInt} {
		if melt, e := spring.Melt(sample(), w, 0, factor); melt != 0 || e != api.ErrArg {
			t.Errorf("Melt with the factor %d returns %d, %d", factor, melt, e)
		}
	}
	for _, w := range []api.Weather{{Day: -1}, {Day: api.MaxDay + 1}, {Temp: 251}, {Temp: -201}, {Rain: 41}, {Rain: -1}} {
		if snow, rain, e := spring.Snow(sample(), w, 0); snow != 0 || rain != 0 || e != api.ErrWeather {
			t.Errorf("Snow of %v returns %d, %d, %d", w, snow, rain, e)
		}
		if melt, e := spring.Melt(sample(), w, 0, 0); melt != 0 || e != api.ErrWeather {
			t.Errorf("Melt of %v returns %d, %d", w, melt, e)
		}
	}
}

// P6.2, P6.14: by the chapter's words, at any height; it is never warmer higher up, and Frost separates snow from rain.
func TestHeights(t *testing.T) {
	r := rand.New(rand.NewSource(1))
	none := 0
	for range 400 {
		c := someClimate(r)
		w := someDays(r, c, r.Intn(api.MaxDay), 1)[0]
		frost, e := spring.Frost(c, w.Temp)
		if e == api.ErrNone {
			none++
			frost = api.MaxHeight + 1
		} else if e != api.OK {
			t.Fatalf("%v: Frost of %d returns %d", c, w.Temp, e)
		}
		last := math.MaxInt
		for height := r.Intn(30); height <= api.MaxHeight; height += 1 + r.Intn(60) {
			near := min(max(frost+r.Intn(3)-1, 0), api.MaxHeight)
			atHeight(t, c, w, near, near >= frost)
			temp := atHeight(t, c, w, height, height >= frost)
			if temp > last {
				t.Fatalf("%v: it is warmer at %d than below", c, height)
			}
			last = temp
		}
	}
	if none < 50 || none > 350 {
		t.Errorf("%d times there was no frost", none)
	}
}

// atHeight fails unless what is returned for a height is what the chapter says, and returns the temperature.
func atHeight(t *testing.T, c api.Climate, w api.Weather, height int, isSnow bool) int {
	t.Helper()
	factor := (height * 7) % 2001
	temp, e := spring.At(c, w.Temp, height)
	snow, rain, g := spring.Snow(c, w, height)
	melt, h := spring.Melt(c, w, height, factor)
	if e != api.OK || g != api.OK || h != api.OK {
		t.Fatalf("%v, %v: errors %d, %d, %d at %d", c, w, e, g, h, height)
	}
	if want := tempThere(c, w.Temp, height); temp != want || (temp <= 0) != isSnow {
		t.Fatalf("%v: At of %d at %d returns %d, not %d", c, w.Temp, height, temp, want)
	}
	wantSnow, wantRain, wantMelt := 0, w.Rain, factor*temp/1000
	if isSnow {
		wantSnow, wantRain, wantMelt = w.Rain, 0, 0
	}
	if snow != wantSnow || rain != wantRain || melt != wantMelt {
		t.Fatalf("%v, %v at %d: Snow returns %d and %d, Melt with %d returns %d", c, w, height, snow, rain, factor, melt)
	}
	return temp
}

// P6.14: a warmer day has never less melt, or more snow.
func TestWarmerDays(t *testing.T) {
	r := rand.New(rand.NewSource(2))
	for range 300 {
		c := someClimate(r)
		height, factor, rain := r.Intn(9001), r.Intn(2001), r.Intn(c.Wettest+1)
		lastMelt, lastSnow := 0, rain
		for temp := c.Coldest; temp <= c.Warmest; temp += 1 + r.Intn(5) {
			w := api.Weather{Day: 5, Temp: temp, Rain: rain}
			melt, _ := spring.Melt(c, w, height, factor)
			snow, fallen, _ := spring.Snow(c, w, height)
			if melt < lastMelt || snow > lastSnow || snow+fallen != rain {
				t.Fatalf("%v at %d: %v melts %d, and %d are snow, %d rain", c, height, w, melt, snow, fallen)
			}
			lastMelt, lastSnow = melt, snow
		}
	}
}
