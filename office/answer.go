package office

import (
	"cmp"
	"slices"

	"snowline/api"
	"snowline/basin"
	"snowline/crew"
	"snowline/share"
	"snowline/spring"
)

// subject is what a bulletin is about.
type subject struct{ valley, date int }

func compareSubjects(a, b subject) int {
	return cmp.Or(cmp.Compare(a.valley, b.valley), cmp.Compare(a.date, b.date))
}

// accusation is sheets that cannot all be true, if there are such.
type accusation struct {
	sheets []int
	is     bool
}

// remaining returns the scenes that remain.
func (f findings) remaining() ([]api.Scene, api.Errno) {
	o, e := f.look()
	return o.scenes, e
}

// cell returns the least and the greatest water of a cell on a day.
func (f findings) cell(no, day int) (api.Span, api.Errno) {
	o, e := f.look()
	if e != api.OK {
		return api.Span{}, e
	}
	if !f.hasCell(no) || !slices.Contains(o.days, day) {
		return api.Span{}, api.ErrNone
	}
	return o.overall(func(s api.Scene) (api.Span, api.Errno) { return basin.Cell(s, no, day) })
}

// overall returns from the least to the greatest end of the spans of all scenes that remain; ErrClash if none does.
func (o outlook) overall(spanOf func(api.Scene) (api.Span, api.Errno)) (api.Span, api.Errno) {
	if len(o.scenes) == 0 {
		return api.Span{}, api.ErrClash
	}
	var all api.Span
	for i, s := range o.scenes {
		one, e := spanOf(s)
		if e != api.OK {
			return api.Span{}, e
		}
		if i == 0 {
			all = one
		}
		all = api.Span{Lo: min(all.Lo, one.Lo), Hi: max(all.Hi, one.Hi)}
	}
	return all, api.OK
}

// volumeBy returns the volume of a valley by a date.
func (f findings) volumeBy(x subject) (api.Span, api.Errno) {
	o, e := f.look()
	if e != api.OK {
		return api.Span{}, e
	}
	return o.volume(x.valley, f.day, x.date)
}

// volume returns the least and the greatest volume that comes in a valley from a day to another one.
func (o outlook) volume(valley, from, to int) (api.Span, api.Errno) {
	cells, springs := o.cellsOf(valley), o.todays()
	if len(cells) == 0 || len(springs) == 0 {
		return api.Span{}, api.ErrNone
	}
	return o.overall(func(s api.Scene) (api.Span, api.Errno) {
		return spring.Volumes(o.climate, springs, s, cells, from, to)
	})
}

// cellsOf returns the numbers of the cells of a valley.
func (f findings) cellsOf(valley int) []int {
	var out []int
	for i, c := range f.basin.Cells {
		if f.valleys[i] == valley {
			out = append(out, c.No)
		}
	}
	return out
}

// left returns the springs that are left.
func (f findings) left() []api.Spring {
	// Without a climate there are no springs.
	l, _ := spring.Left(f.climate, f.log, f.springs)
	isDropped := func(s api.Spring) bool { return !slices.Contains(l, s.No) }
	return slices.DeleteFunc(slices.Clone(f.springs), isDropped)
}

// todays returns the springs that are left and begin on the present day.
func (f findings) todays() []api.Spring {
	isOther := func(s api.Spring) bool { return s.Days[0].Day != f.day }
	return slices.DeleteFunc(f.left(), isOther)
}

// accused returns which sheets that count cannot all be true.
func (f findings) accused() (accusation, api.Errno) {
	o, e := f.look()
	if e != api.OK {
		return accusation{}, e
	}
	l, is, e := basin.Clash(o.scene(nil))
	return accusation{l, is}, e
}

// open returns the tracks that are open in all scenes that remain.
func (f findings) open() ([]int, api.Errno) {
	o, e := f.look()
	if e != api.OK {
		return nil, e
	}
	if len(o.scenes) == 0 {
		return nil, api.ErrClash
	}
	out := numbers(f.region.Tracks, trackNo)
	for _, s := range o.scenes {
		l, e := crew.Open(f.region, s, f.day)
		if e != api.OK {
			return nil, e
		}
		out = slices.DeleteFunc(out, func(no int) bool { return !slices.Contains(l, no) })
	}
	return out, api.OK
}

// share returns the share of an office that has told bulletins on these subjects on the present day.
func (f findings) share(told []subject) (api.Share, api.Errno) {
	supplies, e := f.supplies(told)
	if e != api.OK {
		return api.Share{}, e
	}
	rights, e := share.Standing(f.register, f.day, f.day)
	if e != api.OK {
		return api.Share{}, e
	}
	if len(rights) > api.MaxRights || len(supplies) > api.MaxSupply {
		return api.Share{}, api.ErrLimit
	}
	return api.Share{Rights: rights, Supplies: supplies, Ponds: f.ponds}, api.OK
}

// supplies returns what comes at least in each valley from each date that was told to the next one.
func (f findings) supplies(told []subject) ([]api.Supply, api.Errno) {
	told = slices.DeleteFunc(slices.Clone(told), func(x subject) bool { return x.date <= f.day })
	if len(told) == 0 {
		return nil, api.OK
	}
	o, e := f.look()
	if e != api.OK {
		return nil, e
	}
	var out []api.Supply
	for i, x := range told {
		from := f.day
		if i > 0 && told[i-1].valley == x.valley {
			from = told[i-1].date
		}
		v, e := o.volume(x.valley, from, x.date)
		if e != api.OK {
			return nil, e
		}
		out = append(out, api.Supply{Valley: x.valley, Day: x.date, Volume: v.Lo})
	}
	return out, api.OK
}
