package office

import (
	"slices"

	"snowline/api"
	"snowline/basin"
	"snowline/course"
	"snowline/pillow"
	"snowline/spring"
)

const (
	mostCombinations = 16
	firstPillowSight = api.MaxNo + 1 // sights of sheets have the numbers below
)

// counted is a sheet that counts, with the water of its course.
type counted struct {
	api.Sheet
	water api.Span
}

// standing returns the sheets that stand, by No.
func (f findings) standing() []api.Sheet {
	// Sheets and numbers are valid, and not too many.
	l, _ := course.Standing(f.sheets, f.withdrawn, f.day)
	var out []api.Sheet
	for _, i := range l {
		put(&out, f.sheets[i], sheetNo)
	}
	return out
}

// counting returns the sheets that count, by No.
func (f findings) counting() []counted {
	var out []counted
	for _, s := range f.standing() {
		at, hasScale := place(f.scales, s.Scale, scaleNo)
		if !hasScale || !f.hasCell(s.Cell) || s.Day > f.day {
			continue
		}
		if water, e := course.Course(f.scales[at], s, f.day); e == api.OK {
			out = append(out, counted{s, water})
		}
	}
	return out
}

func (f findings) hasCell(no int) bool {
	_, is := place(f.basin.Cells, no, cellNo)
	return is
}

// gauges returns the pillows that have a log that counts, with this as their log.
func (f findings) gauges() []api.Pillow {
	var out []api.Pillow
	for _, p := range f.pillows {
		n, _ := place(p.Log, f.day+1, func(s api.Shown) int { return s.Day })
		p.Log = p.Log[:n]
		if n > 0 && f.hasCell(p.Cell) {
			out = append(out, p)
		}
	}
	return out
}

// outlook is the scenes of what an office makes of its book.
type outlook struct {
	findings
	counted []counted
	gauges  []api.Pillow
	days    []int // that are looked at
	changes []api.Change
	scenes  []api.Scene // that remain
}

// look returns the outlook of f, or what goes wrong with its scenes.
func (f findings) look() (outlook, api.Errno) {
	if len(f.basin.Cells) == 0 {
		return outlook{}, api.ErrNone
	}
	o := outlook{findings: f, counted: f.counting(), gauges: f.gauges()}
	o.days = o.dates()
	changes, e := o.allChanges()
	if e != api.OK {
		return outlook{}, e
	}
	o.changes = changes
	combinations, e := o.combinations()
	if e != api.OK {
		return outlook{}, e
	}
	for _, sights := range combinations {
		s := o.scene(sights)
		_, e := basin.Greatest(s)
		if e == api.ErrClash {
			continue
		}
		if e != api.OK {
			return outlook{}, e
		}
		o.scenes = append(o.scenes, s)
	}
	return o, api.OK
}

// dates returns the days that are looked at.
func (o outlook) dates() []int {
	days := []int{o.day}
	for _, c := range o.counted {
		days = append(days, c.Day)
	}
	for _, p := range o.gauges {
		for _, s := range p.Log {
			days = append(days, s.Day)
		}
	}
	slices.Sort(days)
	return slices.Compact(days)
}

// allChanges returns the changes of all cells between each two days that are looked at; ErrLimit if these days, or the changes, are too many.
func (o outlook) allChanges() ([]api.Change, api.Errno) {
	n := len(o.days)
	if n > api.MaxDates {
		return nil, api.ErrLimit
	}
	if !o.hasClimate {
		return nil, api.OK
	}
	if n*(n-1)/2*len(o.basin.Cells) > api.MaxChanges {
		return nil, api.ErrLimit
	}
	var out []api.Change
	for i, from := range o.days {
		for _, to := range o.days[i+1:] {
			for _, cell := range o.basin.Cells {
				s, e := spring.Change(o.climate, o.log, cell.Height, from, to)
				if e != api.OK {
					return nil, e
				}
				out = append(out, api.Change{Cell: cell.No, From: from, To: to, Lo: s.Lo, Hi: s.Hi})
			}
		}
	}
	return out, api.OK
}

// combinations returns, for each combination of cases of the pillows, the sights of all of them.
func (o outlook) combinations() ([][]api.Sight, api.Errno) {
	var cases [][][]api.Sight
	count := 1
	for k, p := range o.gauges {
		l, e := o.readings(p, firstPillowSight+api.MaxLog*k)
		if e != api.OK {
			return nil, e
		}
		cases = append(cases, l)
		count *= len(l)
	}
	if count > mostCombinations {
		return nil, api.ErrLimit
	}
	if count == 0 {
		// Others can have so many cases that it would take long to combine them with none.
		return nil, api.OK
	}
	all := [][]api.Sight{nil}
	for _, l := range cases {
		var longer [][]api.Sight
		for _, ahead := range all {
			for _, sights := range l {
				longer = append(longer, slices.Concat(ahead, sights))
			}
		}
		all = longer
	}
	return all, api.OK
}

// readings returns, for each case of a pillow, the sights that its log gives; the first one has the number no.
func (o outlook) readings(p api.Pillow, no int) ([][]api.Sight, api.Errno) {
	weather := o.weatherOf(p)
	cases, e := pillow.Cases(p, weather)
	if e != api.OK {
		return nil, e
	}
	var out [][]api.Sight
	for _, states := range cases {
		loads, e := pillow.Loads(p, weather, states)
		if e != api.OK {
			return nil, e
		}
		var sights []api.Sight
		for i, s := range p.Log {
			sights = append(sights, api.Sight{No: no + i, Cell: p.Cell, Day: s.Day, Lo: loads[i].Lo, Hi: loads[i].Hi})
		}
		out = append(out, sights)
	}
	return out, api.OK
}

// weatherOf returns by how much the snow on a pillow can have changed from each entry of its log to the next one. All of these days are looked at: with a climate, the changes between them are known.
func (o outlook) weatherOf(p api.Pillow) []api.Span {
	var out []api.Span
	for i := range len(p.Log) - 1 {
		span := api.Span{Lo: -api.MaxWater, Hi: api.MaxWater}
		for _, c := range o.changes {
			if c.Cell == p.Cell && c.From == p.Log[i].Day && c.To == p.Log[i+1].Day {
				span = api.Span{Lo: c.Lo, Hi: c.Hi}
			}
		}
		out = append(out, span)
	}
	return out
}

// scene returns the scene with the sights of the sheets that count and those of pillows. It shares no memory with other ones.
func (o outlook) scene(ofPillows []api.Sight) api.Scene {
	var sights []api.Sight
	for _, c := range o.counted {
		sights = append(sights, api.Sight{No: c.No, Cell: c.Cell, Day: c.Day, Lo: min(c.water.Lo, api.MaxWater), Hi: min(c.water.Hi, api.MaxWater)})
	}
	b := o.basin
	b.Cells, b.Pairs = slices.Clone(b.Cells), slices.Clone(b.Pairs)
	return api.Scene{Basin: b, Days: slices.Clone(o.days), Sights: append(sights, ofPillows...), Changes: slices.Clone(o.changes)}
}
