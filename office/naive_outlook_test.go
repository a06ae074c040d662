package office_test

import (
	"fmt"
	"maps"
	"slices"

	"snowline/api"
	"snowline/basin"
	"snowline/course"
	"snowline/crew"
	"snowline/pillow"
	"snowline/share"
	"snowline/spring"
)

// counting returns the sheets that count, and the sights that they give.
func (n naive) counting() ([]api.Sheet, []api.Sight) {
	var sheets []api.Sheet
	var sights []api.Sight
	for _, s := range n.standing() {
		if !n.has("scale", s.Scale) || !n.has("cell", s.Cell) || s.Day > n.day {
			continue
		}
		if water, e := course.Course(n.scale(s.Scale), s, n.day); e == api.OK {
			sheets = append(sheets, s)
			sights = append(sights, api.Sight{No: s.No, Cell: s.Cell, Day: s.Day, Lo: min(water.Lo, 65536), Hi: min(water.Hi, 65536)})
		}
	}
	return sheets, sights
}

// gauges returns the pillows with logs that count.
func (n naive) gauges() []api.Pillow {
	var out []api.Pillow
	for _, p := range n.pillows() {
		p.Log = slices.DeleteFunc(p.Log, func(s api.Shown) bool { return s.Day > n.day })
		if n.has("cell", p.Cell) && len(p.Log) > 0 {
			out = append(out, p)
		}
	}
	return out
}

// days returns the days that are looked at.
func (n naive) days() []int {
	set := map[int]bool{n.day: true}
	sheets, _ := n.counting()
	for _, s := range sheets {
		set[s.Day] = true
	}
	for _, p := range n.gauges() {
		for _, s := range p.Log {
			set[s.Day] = true
		}
	}
	return slices.Sorted(maps.Keys(set))
}

// change returns by how much the snow of a cell can have changed.
func (n naive) change(cell, from, to int) (api.Span, api.Errno) {
	c, is := n.climate()
	if !is {
		return api.Span{Lo: -65536, Hi: 65536}, api.OK
	}
	height := 0
	for _, s := range n.of("cell") {
		if s.x[0] == cell {
			height = s.x[1]
		}
	}
	return spring.Change(c, n.log(), height, from, to)
}

// bare returns the scene with the sights of the sheets alone.
func (n naive) bare() (api.Scene, api.Errno) {
	b := n.basin()
	if len(b.Cells) == 0 {
		return api.Scene{}, api.ErrNone
	}
	_, sights := n.counting()
	s := api.Scene{Basin: b, Days: n.days(), Sights: sights}
	if len(s.Days) > 16 {
		return api.Scene{}, api.ErrLimit
	}
	if _, is := n.climate(); !is {
		return s, api.OK
	}
	var first api.Errno
	for i, from := range s.Days {
		for _, to := range s.Days[i+1:] {
			for _, cell := range b.Cells {
				x, e := n.change(cell.No, from, to)
				if first == api.OK {
					first = e
				}
				s.Changes = append(s.Changes, api.Change{Cell: cell.No, From: from, To: to, Lo: x.Lo, Hi: x.Hi})
			}
		}
	}
	if len(s.Changes) > 256 {
		return api.Scene{}, api.ErrLimit
	}
	return s, first
}

// scenes returns the scenes that remain.
func (n naive) scenes() ([]api.Scene, api.Errno) {
	bare, e := n.bare()
	if e != api.OK {
		return nil, e
	}
	combinations := [][]api.Sight{nil}
	for k, p := range n.gauges() {
		sights, e := n.readings(k, p)
		if e != api.OK {
			return nil, e
		}
		var next [][]api.Sight
		for _, a := range combinations {
			for _, b := range sights {
				next = append(next, append(slices.Clone(a), b...))
			}
		}
		combinations = next
	}
	if len(combinations) > 16 {
		return nil, api.ErrLimit
	}
	var out []api.Scene
	for _, c := range combinations {
		s := bare
		s.Sights = append(slices.Clone(bare.Sights), c...)
		if _, e := basin.Greatest(s); e == api.OK {
			out = append(out, s)
		}
	}
	return out, api.OK
}

// readings returns the sights of the k-th pillow in each of its cases.
func (n naive) readings(k int, p api.Pillow) ([][]api.Sight, api.Errno) {
	var weather []api.Span
	for i := range p.Log[1:] {
		x, _ := n.change(p.Cell, p.Log[i].Day, p.Log[i+1].Day)
		weather = append(weather, x)
	}
	cases, e := pillow.Cases(p, weather)
	if e != api.OK {
		return nil, e
	}
	var out [][]api.Sight
	for _, c := range cases {
		loads, _ := pillow.Loads(p, weather, c)
		var l []api.Sight
		for i, load := range loads {
			l = append(l, api.Sight{No: 4096 + 32*k + i, Cell: p.Cell, Day: p.Log[i].Day, Lo: load.Lo, Hi: load.Hi})
		}
		out = append(out, l)
	}
	return out, api.OK
}

// cell returns the bounds of the water of a cell.
func (n naive) cell(cell, day int) (api.Span, api.Errno) {
	l, e := n.scenes()
	if e != api.OK {
		return api.Span{}, e
	}
	if !n.has("cell", cell) || !slices.Contains(n.days(), day) {
		return api.Span{}, api.ErrNone
	}
	return hull(l, func(s api.Scene) (api.Span, api.Errno) { return basin.Cell(s, cell, day) })
}

// volume returns the bounds of what comes in a valley.
func (n naive) volume(valley, from, to int) (api.Span, api.Errno) {
	l, e := n.scenes()
	if e != api.OK {
		return api.Span{}, e
	}
	if len(n.cellsOf(valley)) == 0 || len(n.todays()) == 0 {
		return api.Span{}, api.ErrNone
	}
	c, _ := n.climate()
	return hull(l, func(s api.Scene) (api.Span, api.Errno) {
		return spring.Volumes(c, n.todays(), s, n.cellsOf(valley), from, to)
	})
}

func hull(l []api.Scene, of func(api.Scene) (api.Span, api.Errno)) (api.Span, api.Errno) {
	if len(l) == 0 {
		return api.Span{}, api.ErrClash
	}
	var los, his []int
	for _, s := range l {
		x, e := of(s)
		if e != api.OK {
			return api.Span{}, e
		}
		los, his = append(los, x.Lo), append(his, x.Hi)
	}
	return api.Span{Lo: slices.Min(los), Hi: slices.Max(his)}, api.OK
}

// open returns the tracks that are open in each scene.
func (n naive) open() ([]int, api.Errno) {
	l, e := n.scenes()
	if e == api.OK && len(l) == 0 {
		e = api.ErrClash
	}
	if e != api.OK {
		return nil, e
	}
	times := map[int]int{}
	for _, s := range l {
		open, _ := crew.Open(n.region(), s, n.day)
		for _, no := range open {
			times[no]++
		}
	}
	maps.DeleteFunc(times, func(_, n int) bool { return n < len(l) })
	return slices.Sorted(maps.Keys(times)), api.OK
}

// share returns the share of an office that has told these bulletins.
func (n naive) share(told []api.Bulletin) (api.Share, api.Errno) {
	dates := map[int]map[int]bool{}
	for _, b := range told {
		if b.Day == n.day && b.Date > n.day {
			if dates[b.Valley] == nil {
				dates[b.Valley] = map[int]bool{}
			}
			dates[b.Valley][b.Date] = true
		}
	}
	s := api.Share{Ponds: n.ponds()}
	for _, valley := range slices.Sorted(maps.Keys(dates)) {
		from := n.day
		for _, date := range slices.Sorted(maps.Keys(dates[valley])) {
			x, e := n.volume(valley, from, date)
			if e != api.OK {
				return api.Share{}, e
			}
			s.Supplies = append(s.Supplies, api.Supply{Valley: valley, Day: date, Volume: x.Lo})
			from = date
		}
	}
	s.Rights, _ = share.Standing(n.register(), n.day, n.day)
	if len(s.Rights) > 32 || len(s.Supplies) > 64 {
		return api.Share{}, api.ErrLimit
	}
	return s, api.OK
}

// basis is what a bulletin rests on, as texts.
type basis struct {
	rests   []int          // the numbers of the sheets
	sheets  map[int]string // by their numbers
	fixed   string         // what has to be the same
	kept    []string       // what has to be kept
	springs []string       // to which none may be added
	logs    map[int][]api.Shown
}

func (n naive) basis(valley int) basis {
	c, is := n.climate()
	b := basis{sheets: map[int]string{}, logs: map[int][]api.Shown{}}
	b.fixed = fmt.Sprint(n.basin(), n.cellsOf(valley), c, is)
	sheets, _ := n.counting()
	for _, s := range sheets {
		b.sheets[s.No] = fmt.Sprint(s)
		b.rests = append(b.rests, s.No)
	}
	for _, s := range n.scales() {
		b.kept = append(b.kept, fmt.Sprint("scale ", s.No, s.Rate))
		for _, t := range s.Tests {
			b.kept = append(b.kept, fmt.Sprint("test ", s.No, t))
		}
	}
	for _, w := range n.log() {
		b.kept = append(b.kept, fmt.Sprint("weather ", w))
	}
	for _, s := range n.of("pillow") {
		b.kept = append(b.kept, fmt.Sprint("pillow ", s.x))
	}
	for _, s := range n.todays() {
		b.springs = append(b.springs, fmt.Sprint(s))
	}
	for _, p := range n.gauges() {
		b.logs[p.No] = p.Log
	}
	return b
}

// after returns what a bulletin that rests on b says of the one ahead of it, which rests on a.
func (b basis) after(a basis) (named []int, anew bool) {
	for _, no := range a.rests {
		if b.sheets[no] != a.sheets[no] {
			named = append(named, no)
		}
	}
	anew = a.fixed != b.fixed
	for _, s := range a.kept {
		anew = anew || !slices.Contains(b.kept, s)
	}
	for _, s := range b.springs {
		anew = anew || !slices.Contains(a.springs, s)
	}
	for no, log := range a.logs {
		anew = anew || len(b.logs[no]) < len(log) || !slices.Equal(b.logs[no][:len(log)], log)
	}
	return named, anew
}
