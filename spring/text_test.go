package spring_test

import (
	"math"
	"math/rand"
	"strings"
	"testing"

	"snowline/api"
	"snowline/spring"
)

// P6.8
func TestTexts(t *testing.T) {
	for i, x := range []struct {
		w    api.Weather
		text string
	}{
		{api.Weather{Day: 12, Temp: -35, Rain: 4}, "weather 12 -35 4"}, {api.Weather{}, "weather 0 0 0"}, {api.Weather{Day: api.MaxDay, Temp: 600, Rain: 1000}, "weather 1048576 600 1000"},
		{api.Weather{Day: 10, Temp: -600, Rain: 90}, "weather 10 -600 90"},
	} {
		if s, e := spring.PrintWeather(x.w); s != x.text || e != api.OK {
			t.Error(i, s, e)
		}
		if w, e := spring.ParseWeather(x.text); w != x.w || e != api.OK {
			t.Error(i, w, e)
		}
	}
	for i, w := range []api.Weather{{Day: -1}, {Day: api.MaxDay + 1}, {Temp: -601}, {Temp: 601}, {Rain: -1}, {Rain: 1001}, {Day: math.MinInt}, {Temp: math.MaxInt}} {
		if s, e := spring.PrintWeather(w); s != "" || e != api.ErrWeather {
			t.Error(i, s, e)
		}
	}
}

// P6.8
func TestBadTexts(t *testing.T) {
	for i, s := range []string{
		"", " ", "weather", "weather ", "weather 12", "weather 12 -35", "weather 12 -35 ", "weather 12 -35 4 ", " weather 12 -35 4", "weather 12 -35 4 5", "weather  12 -35 4", "weather 12  -35 4", "weather 12 -35  4",
		"weather 12 -35 4\n", "weather\t12 -35 4", "weather 12 -0 4", "weather -0 0 4", "weather 012 1 4", "weather 12 01 4", "weather 12 -01 4", "weather 12 1 04", "weather 12 1 00", "weather 12 +1 4", "weather 12 - 4", "weather 12 --1 4",
		"weather 12 1- 4", "weather 12 1 4-", "weather -1 1 4", "weather 1 601 4", "weather 1 -601 4", "weather 1 1 1001", "weather 1 1 -1", "weather 1048577 1 1", "weather 1 1 99999999999999999999", "weather 1 -99999999999999999999 1",
		"weather 18446744073709551616 1 1", "weather 1 18446744073709551617 1", "weather " + strings.Repeat("0", 1<<16) + "1 1 1", "weather 1 1 " + strings.Repeat("9", 1<<16), strings.Repeat(" ", 1<<16),
		"Weather 1 1 1", "weather, 1 1 1", "eather 1 1 1", "1 1 1 1", " 1 1 1", "weather 1 1 1\x00", "weather 1 ١ 1", "weather 1 \xff 1", "weather 0x1 1 1", "weather 1 1e1 1", "weather 1 1_0 1", "weather 1 1.0 1", "weather 1 1 /", "weather 1 1 :",
	} {
		if w, e := spring.ParseWeather(s); w != (api.Weather{}) || e != api.ErrParse {
			t.Error(i, w, e)
		}
	}
}

// P6.8: whatever is parsed is printed as it was, and whatever is printed is parsed as it was.
func TestTextsAreInverse(t *testing.T) {
	r := rand.New(rand.NewSource(9))
	const letters = " -0123456789weathr"
	parsed := 0
	for range 20000 {
		s := "weather 1048 -35 407"
		for range r.Intn(3) {
			at := r.Intn(len(s))
			s = s[:at] + strings.Repeat(string(letters[r.Intn(len(letters))]), r.Intn(2)) + s[at+r.Intn(2):]
		}
		w, e := spring.ParseWeather(s)
		if e != api.OK {
			continue
		}
		parsed++
		if text, e := spring.PrintWeather(w); text != s || e != api.OK {
			t.Fatalf("of %q is parsed %v, of which %q is printed, %d", s, w, text, e)
		}
	}
	if parsed < 1000 {
		t.Errorf("only %d were parsed", parsed)
	}
	for range 2000 {
		w := api.Weather{Day: r.Intn(api.MaxDay + 1), Temp: r.Intn(1201) - 600, Rain: r.Intn(1001)}
		s, e := spring.PrintWeather(w)
		if again, g := spring.ParseWeather(s); again != w || e != api.OK || g != api.OK {
			t.Fatalf("of %v is printed %q, of which %v is parsed, %d", w, s, again, g)
		}
	}
}
