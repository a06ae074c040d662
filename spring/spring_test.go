package spring_test

import (
	"math"
	"reflect"
	"slices"
	"testing"

	"snowline/api"
	"snowline/spring"
)

// P6.1
func TestCheckClimate(t *testing.T) {
	for i, c := range []api.Climate{
		sample(), {}, {Base: 9000, Lapse: 20, Swing: 600, Wettest: 1000, Coldest: -600, Warmest: 600, Factor: api.Span{Lo: 1950, Hi: 2000}},
		{Coldest: 600, Warmest: 600, Factor: api.Span{Lo: 2000, Hi: 2000}}, {Coldest: -600, Warmest: -600, Factor: api.Span{Lo: 0, Hi: 50}},
	} {
		if e := spring.CheckClimate(c); e != api.OK {
			t.Error(i, e)
		}
	}
	for i, spoil := range []func(c *api.Climate){
		func(c *api.Climate) { c.Base = -1 },
		func(c *api.Climate) { c.Base = 9001 },
		func(c *api.Climate) { c.Lapse = -1 },
		func(c *api.Climate) { c.Lapse = 21 },
		func(c *api.Climate) { c.Swing = -1 },
		func(c *api.Climate) { c.Swing = 601 },
		func(c *api.Climate) { c.Wettest = -1 },
		func(c *api.Climate) { c.Wettest = 1001 },
		func(c *api.Climate) { c.Coldest = -601 },
		func(c *api.Climate) { c.Warmest = 601 },
		func(c *api.Climate) { c.Coldest, c.Warmest = 1, 0 },
		func(c *api.Climate) { c.Coldest, c.Warmest = 601, 602 },
		func(c *api.Climate) { c.Coldest, c.Warmest = -602, -601 },
		func(c *api.Climate) { c.Factor = api.Span{Lo: -1, Hi: 0} },
		func(c *api.Climate) { c.Factor = api.Span{Lo: 2000, Hi: 2001} },
		func(c *api.Climate) { c.Factor = api.Span{Lo: 1, Hi: 0} },
		func(c *api.Climate) { c.Factor = api.Span{Lo: 400, Hi: 451} },
		func(c *api.Climate) { c.Factor = api.Span{Lo: math.MinInt, Hi: math.MaxInt} },
		func(c *api.Climate) { c.Base, c.Swing = math.MaxInt, math.MinInt },
	} {
		c := sample()
		spoil(&c)
		if e := spring.CheckClimate(c); e != api.ErrClimate {
			t.Error(i, e)
		}
	}
}

// plain returns the weather of so many days, with 0 degrees and no precipitation.
func plain(day, count int) []api.Weather { return from(day, make([]int, 2*count)...) }

// P6.1
func TestCheckLog(t *testing.T) {
	for i, l := range [][]api.Weather{
		nil, {}, sampleLog(), {{Day: 0, Temp: -200}, {Day: api.MaxDay, Temp: 250, Rain: 40}}, plain(0, 512),
		{{Day: 3}, {Day: 4, Temp: 50}}, {{Day: 3}, {Day: 4, Temp: -50}}, {{Day: 3}, {Day: 6, Temp: 150}}, {{Day: 3, Temp: 200}, {Day: 11, Temp: -200}},
	} {
		if e := spring.CheckLog(sample(), l); e != api.OK {
			t.Error(i, e)
		}
	}
	for i, l := range [][]api.Weather{
		{{Day: -1}}, {{Day: api.MaxDay + 1}}, {{Temp: -201}}, {{Temp: 251}}, {{Rain: -1}}, {{Rain: 41}}, {{Day: math.MinInt}}, {{Temp: math.MaxInt}},
		{{Day: 3}, {Day: 3}}, {{Day: 3}, {Day: 2}}, {{Day: 3}, {Day: 4, Temp: 51}}, {{Day: 3}, {Day: 4, Temp: -51}}, {{Day: 3}, {Day: 6, Temp: 151}},
		{{Day: 3}, {Day: 4}, {Day: 9}, {Day: 10, Temp: 51}}, {{Day: 3}, {Day: math.MaxInt}}, plain(0, 513), {{Day: 3, Temp: 200}, {Day: 10, Temp: -200}},
	} {
		if e := spring.CheckLog(sample(), l); e != api.ErrWeather {
			t.Error(i, e)
		}
	}
	still := sample()
	still.Swing = 0
	if e := spring.CheckLog(still, []api.Weather{{Day: 0, Temp: 7}, {Day: api.MaxDay, Temp: 8}}); e != api.ErrWeather {
		t.Error(e)
	}
}

// P6.1
func TestCheckSpring(t *testing.T) {
	for i, s := range []api.Spring{
		springOf(0, 0, 0), springOf(4095, 250, 40, 200, 0, 150, 0), {Days: plain(0, 512)}, {Days: plain(api.MaxDay-3, 4)}, springOf(1, 0, 0, -50, 0), springOf(1, 0, 0, 50, 0),
	} {
		if e := spring.CheckSpring(sample(), s); e != api.OK {
			t.Error(i, e)
		}
	}
	for i, s := range []api.Spring{
		{}, {No: 3}, springOf(-1, 0, 0), springOf(4096, 0, 0), springOf(1, 0, 0, 51, 0), springOf(1, 0, 0, -51, 0), springOf(1, 251, 0), springOf(1, -201, 0), springOf(1, 0, 41), springOf(1, 0, -1),
		{Days: []api.Weather{{Day: 1}, {Day: 3}}}, {Days: []api.Weather{{Day: 1}, {Day: 1}}}, {Days: []api.Weather{{Day: 2}, {Day: 1}}}, {Days: plain(0, 513)}, {Days: plain(api.MaxDay, 2)},
		{Days: []api.Weather{{Day: math.MaxInt}, {Day: math.MinInt}}}, {Days: plain(-1, 2)},
	} {
		if e := spring.CheckSpring(sample(), s); e != api.ErrSpring {
			t.Error(i, e)
		}
	}
}

// arguments are what functions are called with; number stands for one that is valid, if it is 13, in each of them.
type arguments struct {
	c      api.Climate
	l      []api.Weather
	w      api.Weather
	s      api.Spring
	x      api.Scene
	number int
}

func valid() arguments {
	return arguments{sample(), sampleLog(), api.Weather{Day: 13}, springOf(1, 60, 0, 50, 3), sampleScene(), 13}
}

// spoil makes those arguments invalid for which functions return an error.
func (a *arguments) spoil(e api.Errno) {
	switch e {
	case api.ErrClimate:
		a.c.Lapse = 21
	case api.ErrWeather:
		a.l = []api.Weather{{Day: -1}}
		a.w.Day = -1
	case api.ErrSpring:
		a.s.No = -1
	case api.ErrBasin:
		a.x.Basin.Deep = -1
	case api.ErrArg:
		a.number = -1
	case api.ErrClash:
		a.x.Sights = clashing().Sights
	}
}

// call is a function of the package, and its errors in their order.
type call struct {
	name  string
	order []api.Errno
	do    func(a arguments) []any // the last result is the error
}

// results returns what was returned.
func results(l ...any) []any { return l }

// two returns a list of two results, as those of a call cannot stand beside other arguments.
func two(x any, e api.Errno) []any { return results(x, e) }

func three(x, y any, e api.Errno) []any { return results(x, y, e) }

func calls() []call {
	return []call{
		{"CheckLog", []api.Errno{api.ErrClimate, api.ErrWeather}, func(a arguments) []any { return results(spring.CheckLog(a.c, a.l)) }},
		{"CheckSpring", []api.Errno{api.ErrClimate, api.ErrSpring}, func(a arguments) []any { return results(spring.CheckSpring(a.c, a.s)) }},
		{"At", []api.Errno{api.ErrClimate, api.ErrArg}, func(a arguments) []any { return two(spring.At(a.c, 0, a.number)) }},
		{"Frost", []api.Errno{api.ErrClimate, api.ErrArg}, func(a arguments) []any { return two(spring.Frost(a.c, 601*(a.number-13))) }},
		{"Snow", []api.Errno{api.ErrClimate, api.ErrWeather, api.ErrArg}, func(a arguments) []any { return three(spring.Snow(a.c, a.w, a.number)) }},
		{"Melt", []api.Errno{api.ErrClimate, api.ErrWeather, api.ErrArg}, func(a arguments) []any { return two(spring.Melt(a.c, a.w, a.number, 400)) }},
		{"Gap", []api.Errno{api.ErrClimate, api.ErrWeather, api.ErrArg}, func(a arguments) []any { return three(spring.Gap(a.c, a.l, a.number)) }},
		{"Allowed", []api.Errno{api.ErrClimate, api.ErrWeather, api.ErrArg}, func(a arguments) []any {
			return two(spring.Allowed(a.c, a.l, []api.Weather{{Day: a.number, Temp: 60}}))
		}},
		{"Fill", []api.Errno{api.ErrClimate, api.ErrWeather, api.ErrArg}, func(a arguments) []any { return two(spring.Fill(a.c, a.l, a.number, a.number+1, true)) }},
		{"Change", []api.Errno{api.ErrClimate, api.ErrWeather, api.ErrArg}, func(a arguments) []any { return two(spring.Change(a.c, a.l, a.number, 13, 20)) }},
		{"Change from", []api.Errno{api.ErrClimate, api.ErrWeather, api.ErrArg}, func(a arguments) []any { return two(spring.Change(a.c, a.l, 0, a.number, 20)) }},
		{"Changes", []api.Errno{api.ErrClimate, api.ErrWeather, api.ErrBasin, api.ErrArg}, func(a arguments) []any {
			return two(spring.Changes(a.c, a.l, a.x.Basin, []int{a.number, 20}))
		}},
		{"Fits", []api.Errno{api.ErrClimate, api.ErrWeather, api.ErrSpring}, func(a arguments) []any { return two(spring.Fits(a.c, a.l, a.s)) }},
		{"Left", []api.Errno{api.ErrClimate, api.ErrWeather, api.ErrSpring, api.ErrArg}, func(a arguments) []any {
			return two(spring.Left(a.c, a.l, []api.Spring{a.s, springOf(a.number+1, 60, 0)}))
		}},
		{"Release", []api.Errno{api.ErrClimate, api.ErrSpring, api.ErrArg}, func(a arguments) []any { return three(spring.Release(a.c, a.s, 0, 0, 0, a.number)) }},
		{"Volume", []api.Errno{api.ErrClimate, api.ErrSpring, api.ErrBasin, api.ErrArg, api.ErrClash}, func(a arguments) []any {
			return two(spring.Volume(a.c, a.s, a.x, []int{2}, a.number, 14))
		}},
		{"Volumes", []api.Errno{api.ErrClimate, api.ErrSpring, api.ErrBasin, api.ErrArg, api.ErrClash}, func(a arguments) []any {
			return two(spring.Volumes(a.c, []api.Spring{a.s}, a.x, []int{2}, a.number, 14))
		}},
		{"When", []api.Errno{api.ErrClimate, api.ErrSpring, api.ErrBasin, api.ErrArg, api.ErrClash}, func(a arguments) []any {
			return three(spring.When(a.c, a.s, a.x, []int{2}, a.number))
		}},
	}
}

// P6.1 to P6.7: the errors of all functions, in their order.
func TestErrorOrder(t *testing.T) {
	for _, c := range calls() {
		if out := c.do(valid()); out[len(out)-1] != api.OK {
			t.Errorf("%s of valid arguments returns %v", c.name, out)
		}
		for i, want := range c.order {
			a := valid()
			for _, e := range c.order[i:] {
				a.spoil(e)
				out := c.do(a)
				if out[len(out)-1] != want {
					t.Errorf("%s, spoilt from %d to %d, returns the error %v", c.name, want, e, out[len(out)-1])
				}
				for _, x := range out[:len(out)-1] {
					if !reflect.ValueOf(x).IsZero() {
						t.Errorf("%s returns %v with the error %d", c.name, x, want)
					}
				}
			}
		}
	}
}

// roomy returns a copy of l with zero values behind it.
func roomy[T any](l []T) []T { return append(make([]T, 0, 99), l...) }

// P6.1 to P6.7, R2: arguments stay as they are, and results are new memory.
func TestPurity(t *testing.T) {
	c, s, x, l := sample(), springOf(1, 60, 0, 50, 3), sampleScene(), roomy(sampleLog())
	s.Days, x.Basin.Cells, x.Days = roomy(s.Days), roomy(x.Basin.Cells), roomy(x.Days)
	cells, dates, springs := roomy([]int{2, 5}), roomy([]int{10, 11, 13}), roomy([]api.Spring{s})
	do := func() []any {
		temp, rain, _ := spring.Gap(c, l, 12)
		warm, _ := spring.Fill(c, l, 10, 14, true)
		cold, _ := spring.Fill(c, l, 10, 14, false)
		is, _ := spring.Allowed(c, l, s.Days)
		changes, _ := spring.Changes(c, l, x.Basin, dates)
		left, _ := spring.Left(c, l, springs)
		volumes, _ := spring.Volumes(c, springs, x, cells, 13, 15)
		when, _, _ := spring.When(c, s, x, cells, 30)
		comes, rest, _ := spring.Release(c, s, 1500, 9, 400, 14)
		return []any{temp, rain, warm, cold, is, changes, left, volumes, when, comes, rest}
	}
	want := do()
	for i, now := range want {
		again := do()
		switch l := again[i].(type) {
		case []api.Weather:
			clear(l)
		case []api.Change:
			clear(l)
		case []int:
			clear(l)
		}
		if !reflect.DeepEqual(do(), want) {
			t.Errorf("changing %v changes later results", now)
		}
	}
	if !slices.Equal(l, sampleLog()) || !slices.Equal(s.Days, springOf(1, 60, 0, 50, 3).Days) || !slices.Equal(x.Basin.Cells, sampleScene().Basin.Cells) {
		t.Error("arguments were changed")
	}
	if !slices.Equal(x.Days, []int{13}) || !slices.Equal(cells, []int{2, 5}) || !slices.Equal(dates, []int{10, 11, 13}) {
		t.Error("lists of numbers were changed")
	}
	if l[:3][2] != (api.Weather{}) || s.Days[:3][2] != (api.Weather{}) || x.Basin.Cells[:3][2] != (api.Cell{}) || cells[:3][2] != 0 || dates[:4][3] != 0 {
		t.Error("the memory behind arguments was changed")
	}
}
