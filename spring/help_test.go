package spring_test

import (
	"math"
	"math/rand"
	"slices"

	"snowline/api"
	"snowline/basin"
)

// sample is the climate of the chapter's examples.
func sample() api.Climate {
	return api.Climate{Base: 1000, Lapse: 6, Swing: 50, Wettest: 40, Coldest: -200, Warmest: 250, Factor: api.Span{Lo: 400, Hi: 410}}
}

// sampleLog is the log of the third one.
func sampleLog() []api.Weather {
	return []api.Weather{{Day: 10, Temp: 0, Rain: 5}, {Day: 13, Temp: 60, Rain: 0}}
}

// sampleScene is a scene with the cells 2, at the height 1500, and 5, at 2000, on the day 13.
func sampleScene() api.Scene {
	return api.Scene{
		Basin:  api.Basin{Cells: []api.Cell{{No: 2, Height: 1500, Area: 3}, {No: 5, Height: 2000, Area: 10}}, Deep: 100},
		Days:   []int{13},
		Sights: []api.Sight{{No: 1, Cell: 2, Day: 13, Lo: 5, Hi: 20}, {No: 2, Cell: 5, Day: 13, Lo: 50, Hi: 60}},
	}
}

// clashing is a scene on the same day that allows no field.
func clashing() api.Scene {
	x := sampleScene()
	x.Sights = append(x.Sights, api.Sight{No: 3, Cell: 2, Day: 13, Lo: 21, Hi: 30})
	return x
}

// from returns the weather of successive days from one on, of which each pair of numbers is the temperature and the precipitation.
func from(day int, numbers ...int) []api.Weather {
	var l []api.Weather
	for i := 0; i < len(numbers); i += 2 {
		l = append(l, api.Weather{Day: day + i/2, Temp: numbers[i], Rain: numbers[i+1]})
	}
	return l
}

// springOf returns the spring with this weather from the day 13 on.
func springOf(no int, numbers ...int) api.Spring {
	return api.Spring{No: no, Days: from(13, numbers...)}
}

// tempThere tells the temperature at a height from the chapter.
func tempThere(c api.Climate, temp, height int) int {
	return temp - int(math.Floor(float64(c.Lapse)*float64(height-c.Base)/100))
}

// dayThere tells from the chapter what comes at a height on a day from x millimetres of snow, and what is left.
func dayThere(c api.Climate, w api.Weather, height, factor, x int) (comes, left int) {
	snow, rain, melt := w.Rain, 0, 0
	if temp := tempThere(c, w.Temp, height); temp > 0 {
		snow, rain, melt = 0, w.Rain, factor*temp/1000
	}
	left = max(0, x+snow-melt)
	return rain + x + snow - left, left
}

// released tells what comes on some days, and what is left.
func released(c api.Climate, days []api.Weather, height, factor, x int) (comes, left int) {
	for _, w := range days {
		more, rest := dayThere(c, w, height, factor, x)
		comes += more
		x = rest
	}
	return comes, x
}

// isFollowing reports, by the chapter's words, whether days are a sequence.
func isFollowing(c api.Climate, days []api.Weather) bool {
	for i, w := range days {
		if w.Temp < c.Coldest || w.Temp > c.Warmest || w.Rain < 0 || w.Rain > c.Wettest {
			return false
		}
		if i == 0 {
			continue
		}
		if ahead := days[i-1]; w.Day != ahead.Day+1 || w.Temp-ahead.Temp > c.Swing || ahead.Temp-w.Temp > c.Swing {
			return false
		}
	}
	return true
}

// tried returns all lists of weather of successive days, a little beyond what is valid in the climate too if beyond is 1.
func tried(c api.Climate, day, count, beyond int) [][]api.Weather {
	if count == 0 {
		return [][]api.Weather{nil}
	}
	var all [][]api.Weather
	for _, l := range tried(c, day, count-1, beyond) {
		for temp := c.Coldest - beyond; temp <= c.Warmest+beyond; temp++ {
			for rain := -beyond; rain <= c.Wettest+beyond; rain++ {
				w := api.Weather{Day: day + count - 1, Temp: temp, Rain: rain}
				if longer := append(slices.Clone(l), w); beyond > 0 || isFollowing(c, longer) {
					all = append(all, longer)
				}
			}
		}
	}
	return all
}

// agreeing returns those of some sequences of the same days that contain a log of some of these days.
func agreeing(all [][]api.Weather, l []api.Weather) [][]api.Weather {
	return slices.DeleteFunc(slices.Clone(all), func(days []api.Weather) bool {
		return slices.ContainsFunc(l, func(w api.Weather) bool { return !slices.Contains(days, w) })
	})
}

// someOf returns some of the weather of successive days, in order.
func someOf(r *rand.Rand, days []api.Weather) []api.Weather {
	var l []api.Weather
	for _, w := range days {
		if r.Intn(3) == 0 {
			l = append(l, w)
		}
	}
	return l
}

// small returns a climate with few temperatures, and a height at which it freezes at one of them.
func small(r *rand.Rand) (api.Climate, int) {
	lo := 600 + r.Intn(1380)
	c := api.Climate{Base: 1000 * r.Intn(9), Lapse: r.Intn(21), Swing: r.Intn(4), Wettest: r.Intn(3), Factor: api.Span{Lo: lo, Hi: lo + r.Intn(min(50, 2000-lo)+1)}}
	for {
		height := r.Intn(9001)
		if freezing := -tempThere(c, 0, height); freezing >= -590 && freezing <= 590 {
			c.Coldest = freezing - 2 + r.Intn(3)
			c.Warmest = freezing + r.Intn(3)
			if c.Coldest <= c.Warmest {
				return c, height
			}
		}
	}
}

// thawing returns a climate in which at most 9 millimetres melt in a day, often more of them with a greater factor, and a height at which it can freeze.
func thawing(r *rand.Rand) (api.Climate, int) {
	lo := r.Intn(41)
	c := api.Climate{Base: 4000, Lapse: r.Intn(11), Swing: r.Intn(150), Wettest: r.Intn(4), Factor: api.Span{Lo: lo, Hi: lo + r.Intn(51)}}
	height := 3000 + r.Intn(2001)
	freezing := -tempThere(c, 0, height)
	c.Coldest, c.Warmest = freezing-r.Intn(50), freezing+r.Intn(100)
	return c, height
}

// someDay returns the first of a few days.
func someDay(r *rand.Rand, count int) int {
	switch r.Intn(4) {
	case 0:
		return 0
	case 1:
		return api.MaxDay - count + 1
	}
	return r.Intn(1000)
}

// someClimate returns a climate of any size.
func someClimate(r *rand.Rand) api.Climate {
	a, b := r.Intn(1201)-600, r.Intn(1201)-600
	lo := r.Intn(2001)
	return api.Climate{
		Base: r.Intn(9001), Lapse: r.Intn(21), Swing: r.Intn(601), Wettest: r.Intn(1001), Coldest: min(a, b), Warmest: max(a, b),
		Factor: api.Span{Lo: lo, Hi: min(lo+r.Intn(51), 2000)},
	}
}

// someDays returns a sequence of a climate.
func someDays(r *rand.Rand, c api.Climate, day, count int) []api.Weather {
	var l []api.Weather
	temp := c.Coldest + r.Intn(c.Warmest-c.Coldest+1)
	for i := range count {
		l = append(l, api.Weather{Day: day + i, Temp: temp, Rain: r.Intn(c.Wettest + 1)})
		temp = min(max(temp+r.Intn(2*c.Swing+1)-c.Swing, c.Coldest), c.Warmest)
	}
	return l
}

// someScene returns a small scene with a last day, whose few fields can be tried.
func someScene(r *rand.Rand, c api.Climate, height, last int) api.Scene {
	x := api.Scene{Basin: api.Basin{Deep: 1 + r.Intn(5), Slack: r.Intn(3)}, Days: []int{last}}
	no := r.Intn(3)
	for range 1 + r.Intn(3) {
		up := min(max(height+r.Intn(201)-100, 0), api.MaxHeight)
		x.Basin.Cells = append(x.Basin.Cells, api.Cell{No: no, Height: up, Aspect: r.Intn(2), Area: 1 + r.Intn(9)})
		no += 1 + r.Intn(3)
	}
	if cells := x.Basin.Cells; len(cells) > 1 && cells[0].Height <= cells[1].Height {
		x.Basin.Pairs = [][2]int{{0, 1}}
	}
	if len(x.Basin.Cells) < 3 && last > 5 && r.Intn(2) == 0 {
		x.Days = []int{last - 1 - r.Intn(5), last}
		x.Changes = append(x.Changes, api.Change{Cell: x.Basin.Cells[0].No, From: x.Days[0], To: last, Lo: -r.Intn(3), Hi: r.Intn(3)})
	}
	for range r.Intn(4) {
		lo := r.Intn(x.Basin.Deep + 1)
		cell := x.Basin.Cells[r.Intn(len(x.Basin.Cells))].No
		x.Sights = append(x.Sights, api.Sight{No: r.Intn(9), Cell: cell, Day: x.Days[r.Intn(len(x.Days))], Lo: lo, Hi: lo + r.Intn(5)})
	}
	return x
}

// fieldsOf returns all fields that a small scene allows.
func fieldsOf(x api.Scene) [][][]int {
	var all [][][]int
	width := len(x.Basin.Cells)
	water := make([]int, width*len(x.Days))
	var try func(i int)
	try = func(i int) {
		if i == len(water) {
			var f [][]int
			for d := range x.Days {
				f = append(f, slices.Clone(water[d*width:(d+1)*width]))
			}
			if basin.CheckField(x, f) == api.OK {
				all = append(all, f)
			}
			return
		}
		for water[i] = 0; water[i] <= x.Basin.Deep; water[i]++ {
			try(i + 1)
		}
	}
	try(0)
	return all
}

// someCells returns some numbers of cells of x, at least one.
func someCells(r *rand.Rand, x api.Scene) []int {
	for {
		var l []int
		for _, c := range x.Basin.Cells {
			if r.Intn(3) > 0 {
				l = append(l, c.No)
			}
		}
		if len(l) > 0 {
			return l
		}
	}
}

// volumeThere tells from the chapter the volume that comes from the first day of s to another one, from the water of a field with a factor.
func volumeThere(c api.Climate, s api.Spring, x api.Scene, cells []int, f [][]int, factor, day int) int {
	sum := 0
	for i, cell := range x.Basin.Cells {
		if slices.Contains(cells, cell.No) {
			comes, _ := released(c, s.Days[:day-s.Days[0].Day], cell.Height, factor, f[len(f)-1][i])
			sum += cell.Area * comes
		}
	}
	return sum
}
