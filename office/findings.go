package office

import (
	"cmp"
	"slices"

	"snowline/api"
	"snowline/basin"
	"snowline/course"
	"snowline/crew"
	"snowline/pillow"
	"snowline/share"
	"snowline/spring"
)

// How many of these an office has at most.
const (
	mostScales  = 8
	mostSheets  = 64
	mostPillows = 4
	mostPonds   = 64
)

// findings is what an office makes of its book. Lists are in the order of their numbers, but for sheets, which are in the order in which they were added.
type findings struct {
	day        int // the present day
	scales     []api.Scale
	sheets     []api.Sheet
	withdrawn  []int
	basin      api.Basin
	valleys    []int // in which the cells lie
	hasLaws    bool  // whether laws were taken
	climate    api.Climate
	hasClimate bool
	log        []api.Weather
	springs    []api.Spring
	pillows    []api.Pillow
	register   api.Register
	ponds      []api.Pond
	region     api.Range
	refused    int
}

// findingsOf returns what an office makes of messages on a day.
func findingsOf(l []api.Entry, day int) findings {
	type said struct {
		day  int
		form any
	}
	var meaning []said
	for _, entry := range l {
		if day, form, is := readBody(entry.Body); is {
			meaning = append(meaning, said{day, form})
		}
	}
	// A book has its messages by office, then by number.
	slices.SortStableFunc(meaning, func(a, b said) int { return cmp.Compare(a.day, b.day) })
	f := findings{day: day, basin: api.Basin{Slack: api.MaxWater, Deep: api.MaxWater}}
	for _, x := range meaning {
		if !f.take(x.form) {
			f.refused++
		}
	}
	return f
}

// take takes in what a form says, and reports whether it is not refused.
func (f *findings) take(form any) bool {
	switch x := form.(type) {
	case api.Scale:
		return len(f.scales) < mostScales && put(&f.scales, x, scaleNo)
	case tested:
		return f.takeTest(x)
	case api.Sheet:
		return f.takeSheet(x)
	case withdrawal:
		return put(&f.withdrawn, int(x), itself)
	case laws:
		return f.takeLaws(x)
	case plot:
		return f.takePlot(x)
	case neighbours:
		return f.takePair(x)
	case api.Climate:
		return f.takeClimate(x)
	case api.Weather:
		return f.takeWeather(x)
	case api.Spring:
		return f.takeSpring(x)
	case api.Pillow:
		return len(f.pillows) < mostPillows && put(&f.pillows, x, pillowNo)
	case shown:
		return f.takeShown(x)
	case api.Event:
		return f.takeEvent(x)
	case api.Pond:
		return len(f.ponds) < mostPonds && put(&f.ponds, x, pondValley)
	case api.Site:
		return f.takeSite(x)
	case api.Track:
		return f.takeTrack(x)
	}
	return false
}

func (f *findings) takeTest(x tested) bool {
	at, is := place(f.scales, x.scale, scaleNo)
	if !is {
		return false
	}
	s, e := course.AddTest(f.scales[at], x.test)
	if e != api.OK {
		return false
	}
	f.scales[at] = s
	return true
}

func (f *findings) takeSheet(s api.Sheet) bool {
	if len(f.sheets) == mostSheets {
		return false
	}
	f.sheets = append(f.sheets, s)
	return true
}

func (f *findings) takeLaws(x laws) bool {
	if f.hasLaws {
		return false
	}
	f.hasLaws = true
	f.basin.Gain, f.basin.Slack, f.basin.Deep = x.gain, x.slack, x.deep
	return true
}

func (f *findings) takePlot(x plot) bool {
	at, _ := place(f.basin.Cells, x.cell.No, cellNo)
	if len(f.basin.Cells) == api.MaxCells || !put(&f.basin.Cells, x.cell, cellNo) {
		return false
	}
	f.valleys = slices.Insert(f.valleys, at, x.valley)
	// Pairs name cells by their indices: those behind the new one have moved on.
	for i := range f.basin.Pairs {
		for k := range f.basin.Pairs[i] {
			if f.basin.Pairs[i][k] >= at {
				f.basin.Pairs[i][k]++
			}
		}
	}
	return true
}

func (f *findings) takePair(x neighbours) bool {
	a, isA := place(f.basin.Cells, x[0], cellNo)
	b, isB := place(f.basin.Cells, x[1], cellNo)
	if !isA || !isB {
		return false
	}
	more := f.basin
	more.Pairs = append(slices.Clone(more.Pairs), [2]int{a, b})
	if basin.CheckBasin(more) != api.OK {
		return false
	}
	f.basin = more
	return true
}

func (f *findings) takeClimate(c api.Climate) bool {
	if f.hasClimate {
		return false
	}
	f.hasClimate = true
	f.climate = c
	return true
}

func (f *findings) takeWeather(w api.Weather) bool {
	log := slices.Clone(f.log)
	if !f.hasClimate || !put(&log, w, weatherDay) || spring.CheckLog(f.climate, log) != api.OK {
		return false
	}
	f.log = log
	return true
}

func (f *findings) takeSpring(s api.Spring) bool {
	if !f.hasClimate || len(f.springs) == api.MaxSprings || spring.CheckSpring(f.climate, s) != api.OK {
		return false
	}
	return put(&f.springs, s, springNo)
}

func (f *findings) takeShown(x shown) bool {
	at, is := place(f.pillows, x.pillow, pillowNo)
	if !is {
		return false
	}
	p, e := pillow.Add(f.pillows[at], x.entry)
	if e != api.OK {
		return false
	}
	f.pillows[at] = p
	return true
}

func (f *findings) takeEvent(x api.Event) bool {
	x.No = len(f.register.Events)
	r, e := share.Enter(f.register, x)
	if e != api.OK {
		return false
	}
	f.register = r
	return true
}

func (f *findings) takeSite(x api.Site) bool {
	more := api.Range{Sites: slices.Clone(f.region.Sites), Tracks: f.region.Tracks}
	if !put(&more.Sites, x, siteNo) || crew.CheckRange(more) != api.OK {
		return false
	}
	f.region = more
	return true
}

func (f *findings) takeTrack(x api.Track) bool {
	more := api.Range{Sites: f.region.Sites, Tracks: slices.Clone(f.region.Tracks)}
	if !put(&more.Tracks, x, trackNo) || crew.CheckRange(more) != api.OK {
		return false
	}
	f.region = more
	return true
}
