package office

import (
	"maps"
	"slices"

	"snowline/api"
)

// Scales returns the scales that an office makes of the messages of its book.
func (y *Model) Scales(office int) ([]api.Scale, api.Errno) {
	return ask(y, office, func(f findings) ([]api.Scale, api.Errno) { return f.scales, api.OK })
}

// Sheets returns the sheets that stand.
func (y *Model) Sheets(office int) ([]api.Sheet, api.Errno) {
	return ask(y, office, func(f findings) ([]api.Sheet, api.Errno) { return f.standing(), api.OK })
}

// Pillows returns the pillows, with their logs.
func (y *Model) Pillows(office int) ([]api.Pillow, api.Errno) {
	return ask(y, office, func(f findings) ([]api.Pillow, api.Errno) { return f.pillows, api.OK })
}

// Basin returns the basin; ErrNone if there is no cell.
func (y *Model) Basin(office int) (api.Basin, api.Errno) {
	return ask(y, office, func(f findings) (api.Basin, api.Errno) {
		if len(f.basin.Cells) == 0 {
			return api.Basin{}, api.ErrNone
		}
		return f.basin, api.OK
	})
}

// Climate returns the climate; ErrNone if there is none.
func (y *Model) Climate(office int) (api.Climate, api.Errno) {
	return ask(y, office, func(f findings) (api.Climate, api.Errno) {
		if !f.hasClimate {
			return api.Climate{}, api.ErrNone
		}
		return f.climate, api.OK
	})
}

// Log returns the weather that was written down.
func (y *Model) Log(office int) ([]api.Weather, api.Errno) {
	return ask(y, office, func(f findings) ([]api.Weather, api.Errno) { return f.log, api.OK })
}

// Springs returns the springs that are left.
func (y *Model) Springs(office int) ([]api.Spring, api.Errno) {
	return ask(y, office, func(f findings) ([]api.Spring, api.Errno) { return f.left(), api.OK })
}

// Register returns the register of rights.
func (y *Model) Register(office int) (api.Register, api.Errno) {
	return ask(y, office, func(f findings) (api.Register, api.Errno) { return f.register, api.OK })
}

// Range returns the sites and tracks.
func (y *Model) Range(office int) (api.Range, api.Errno) {
	return ask(y, office, func(f findings) (api.Range, api.Errno) { return f.region, api.OK })
}

// Refused returns how many messages that mean something are refused.
func (y *Model) Refused(office int) (int, api.Errno) {
	return ask(y, office, func(f findings) (int, api.Errno) { return f.refused, api.OK })
}

// Tally returns how many messages of each office the book of an office has, and their sums.
func (y *Model) Tally(office int) (api.Tally, api.Errno) {
	return ask(y, office, func(findings) (api.Tally, api.Errno) { return y.desks[office].book.Tally(), api.OK })
}

// Scenes returns the scenes that remain, by the order of their combinations.
func (y *Model) Scenes(office int) ([]api.Scene, api.Errno) {
	return ask(y, office, findings.remaining)
}

// Cell returns the least and the greatest water of a cell on a day.
func (y *Model) Cell(office, cell, day int) (api.Span, api.Errno) {
	return ask(y, office, func(f findings) (api.Span, api.Errno) {
		if !isIn(cell, 0, api.MaxNo) || !isIn(day, 0, api.MaxDay) {
			return api.Span{}, api.ErrArg
		}
		return f.cell(cell, day)
	})
}

// Volume returns the least and the greatest volume that comes in a valley by a date.
func (y *Model) Volume(office, valley, date int) (api.Span, api.Errno) {
	return ask(y, office, func(f findings) (api.Span, api.Errno) {
		if !isIn(valley, 0, api.MaxNo) || !isIn(date, 0, api.MaxDay) {
			return api.Span{}, api.ErrArg
		}
		return f.volumeBy(subject{valley, date})
	})
}

// Told returns the bulletins that an office has told, in order.
func (y *Model) Told(office int) ([]api.Bulletin, api.Errno) {
	return ask(y, office, func(findings) ([]api.Bulletin, api.Errno) {
		out := slices.Clone(y.desks[office].told)
		for i, b := range out {
			out[i].Rests, out[i].Named = slices.Clone(b.Rests), slices.Clone(b.Named)
		}
		return out, api.OK
	})
}

// Accused returns the numbers of sheets that cannot all be true, none of which can be left out, and whether there are such.
func (y *Model) Accused(office int) ([]int, bool, api.Errno) {
	x, e := ask(y, office, findings.accused)
	return x.sheets, x.is, e
}

// Open returns the tracks that are safe on the present day.
func (y *Model) Open(office int) ([]int, api.Errno) {
	return ask(y, office, findings.open)
}

// Share returns the rights that stand on the present day, what is sure to come, and the ponds.
func (y *Model) Share(office int) (api.Share, api.Errno) {
	return ask(y, office, func(f findings) (api.Share, api.Errno) {
		told := slices.SortedFunc(maps.Keys(y.desks[office].today), compareSubjects)
		return f.share(told)
	})
}

// Agree reports whether two offices make the same of their books.
func (y *Model) Agree(a, b int) (bool, api.Errno) {
	if !y.has(b) {
		return false, api.ErrArg
	}
	return ask(y, a, func(f findings) (bool, api.Errno) { return areSame(f, y.read(b)), api.OK })
}
