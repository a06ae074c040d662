package office

import (
	"strings"

	"snowline/api"
	"snowline/basin"
	"snowline/course"
	"snowline/crew"
	"snowline/pillow"
	"snowline/share"
	"snowline/spring"
)

// mostSpringDays is how many days a spring in a body has at most.
const mostSpringDays = 64

// What forms say that is no value of package api.
type (
	// tested is a test of the scale with a number.
	tested struct {
		scale int
		test  api.Test
	}
	// withdrawal is the number of sheets that are withdrawn.
	withdrawal int
	// laws are the laws of a basin.
	laws struct{ gain, slack, deep int }
	// plot is a cell and the valley in which it lies.
	plot struct {
		cell   api.Cell
		valley int
	}
	// neighbours are the numbers of the cells of a pair, the lower one first.
	neighbours [2]int
	// shown is an entry of the log of the pillow with a number.
	shown struct {
		pillow int
		entry  api.Shown
	}
)

// readBody returns the day on which a body was written, what it says, and whether it means something.
func readBody(body string) (int, any, bool) {
	words := strings.SplitN(body, " ", mostWords)
	day, is := readNumber(words[0], rangeOf("DAY"))
	if !is {
		return 0, nil, false
	}
	form, is := readForm(words[1:], day)
	return day, form, is
}

// readForm returns what a form says that is written on a day, and whether words are one.
func readForm(words []string, day int) (any, bool) {
	value, x, is := lookUp(forms(day), words)
	if !is {
		return nil, false
	}
	form := value(x)
	return form, isValid(form)
}

// forms returns, by its pattern, what each form says with its numbers, if it is written on a day.
func forms(day int) map[string]func(x []int) any {
	return map[string]func(x []int) any{
		"scale NO RATE": func(x []int) any { return api.Scale{No: x[0], Rate: x[1]} },
		"test SCALE DAY LO HI": func(x []int) any {
			return tested{x[0], api.Test{Day: x[1], Known: day, Lo: x[2], Hi: x[3]}}
		},
		"course NO CELL DAY SCALE MOUTH EMPTY EMPTYDAY DEPTH/CORE/FULL/LOST/SOIL ..": func(x []int) any { return sheetOf(x, day) },

		"withdraw NO":          func(x []int) any { return withdrawal(x[0]) },
		"laws GAIN SLACK DEEP": func(x []int) any { return laws{x[0], x[1], x[2]} },
		"cell NO HEIGHT ASPECT AREA VALLEY": func(x []int) any {
			return plot{api.Cell{No: x[0], Height: x[1], Aspect: x[2], Area: x[3]}, x[4]}
		},
		"pair A B": func(x []int) any { return neighbours{x[0], x[1]} },
		"climate BASE LAPSE SWING WETTEST COLDEST WARMEST LO HI": func(x []int) any {
			return api.Climate{Base: x[0], Lapse: x[1], Swing: x[2], Wettest: x[3], Coldest: x[4], Warmest: x[5], Factor: api.Span{Lo: x[6], Hi: x[7]}}
		},
		"weather DAY TEMP RAIN":      func(x []int) any { return api.Weather{Day: x[0], Temp: x[1], Rain: x[2]} },
		"spring NO DAY TEMP/RAIN ..": func(x []int) any { return springOf(x) },
		"pillow NO CELL NOISE SLAB JUMP FAULTS": func(x []int) any {
			return api.Pillow{No: x[0], Cell: x[1], Noise: x[2], Slab: x[3], Jump: x[4], Faults: x[5]}
		},
		"shown PILLOW DAY WEIGHT": func(x []int) any { return shown{x[0], api.Shown{Day: x[1], Weight: x[2]}} },
		"grant RIGHT DAY HOLDER VALLEY FROM TO CLAIM": func(x []int) any {
			return api.Event{Kind: api.GrantE, Known: day, Right: x[0], Day: x[1], Holder: x[2], Valley: x[3], From: x[4], To: x[5], Claim: x[6]}
		},
		"pass RIGHT DAY HOLDER": func(x []int) any {
			return api.Event{Kind: api.PassE, Known: day, Right: x[0], Day: x[1], Holder: x[2]}
		},
		"hold RIGHT DAY":    func(x []int) any { return api.Event{Kind: api.HoldE, Known: day, Right: x[0], Day: x[1]} },
		"free RIGHT DAY":    func(x []int) any { return api.Event{Kind: api.FreeE, Known: day, Right: x[0], Day: x[1]} },
		"end RIGHT DAY":     func(x []int) any { return api.Event{Kind: api.EndE, Known: day, Right: x[0], Day: x[1]} },
		"pond VALLEY ROOM":  func(x []int) any { return api.Pond{Valley: x[0], Room: x[1]} },
		"site NO KIND CELL": func(x []int) any { return api.Site{No: x[0], Kind: x[1], Cell: x[2]} },
		"track NO A B MINUTES CELL STEEP": func(x []int) any {
			return api.Track{No: x[0], A: x[1], B: x[2], Minutes: x[3], Cell: x[4], Steep: x[5]}
		},
	}
}

// sheetOf returns the sheet with the numbers of its form, five for each stake behind the first seven.
func sheetOf(x []int, day int) api.Sheet {
	s := api.Sheet{No: x[0], Cell: x[1], Day: x[2], Known: day, Scale: x[3], Mouth: x[4], Empty: x[5], EmptyDay: x[6]}
	for l := x[7:]; len(l) > 0; l = l[5:] {
		s.Stakes = append(s.Stakes, api.Stake{Depth: l[0], Core: l[1], Full: l[2], Lost: l[3], Soil: l[4]})
	}
	return s
}

// springOf returns the spring with the numbers of its form, two for each day behind the first two.
func springOf(x []int) api.Spring {
	s := api.Spring{No: x[0]}
	for l := x[2:]; len(l) > 0; l = l[2:] {
		s.Days = append(s.Days, api.Weather{Day: x[1] + len(s.Days), Temp: l[0], Rain: l[1]})
	}
	return s
}

// isValid reports whether what a form says is valid by itself, as far as the ranges of its numbers leave that open.
func isValid(form any) bool {
	e := api.OK
	switch x := form.(type) {
	case api.Scale:
		e = course.CheckScale(x)
	case tested:
		e = course.CheckTest(x.test)
	case api.Sheet:
		e = course.CheckSheet(x)
	case plot:
		e = basin.CheckBasin(api.Basin{Cells: []api.Cell{x.cell}})
	case api.Climate:
		e = spring.CheckClimate(x)
	case api.Weather:
		_, e = spring.PrintWeather(x)
	case api.Spring:
		e = checkSpringDays(x.Days)
	case api.Pillow:
		e = pillow.Check(x)
	case api.Event:
		e = share.CheckEvent(x)
	case api.Site:
		e = crew.CheckRange(api.Range{Sites: []api.Site{x}})
	case api.Track:
		_, e = crew.PrintTrack(x)
	}
	return e == api.OK
}

// checkSpringDays returns the first error of the days of a spring, whatever the climate is.
func checkSpringDays(l []api.Weather) api.Errno {
	if len(l) > mostSpringDays {
		return api.ErrLimit
	}
	for _, w := range l {
		if _, e := spring.PrintWeather(w); e != api.OK {
			return e
		}
	}
	return api.OK
}
