package office

import (
	"slices"

	"snowline/api"
)

// areSame reports whether two offices make the same of their books.
func areSame(f, g findings) bool {
	return slices.EqualFunc(f.scales, g.scales, isSameScale) &&
		slices.EqualFunc(f.sheets, g.sheets, isSameSheet) &&
		slices.Equal(f.withdrawn, g.withdrawn) &&
		isSameBasin(f.basin, g.basin) && slices.Equal(f.valleys, g.valleys) &&
		isSameClimate(f, g) &&
		slices.Equal(f.log, g.log) &&
		slices.EqualFunc(f.springs, g.springs, isSameSpring) &&
		slices.EqualFunc(f.pillows, g.pillows, isSamePillow) &&
		slices.Equal(f.register.Events, g.register.Events) &&
		slices.Equal(f.ponds, g.ponds) &&
		slices.Equal(f.region.Sites, g.region.Sites) && slices.Equal(f.region.Tracks, g.region.Tracks)
}

func isSameClimate(f, g findings) bool {
	return f.hasClimate == g.hasClimate && f.climate == g.climate
}

func isSameScale(s, t api.Scale) bool {
	return s.No == t.No && s.Rate == t.Rate && slices.Equal(s.Tests, t.Tests)
}

func isSameSheet(s, t api.Sheet) bool {
	return s.No == t.No && s.Cell == t.Cell && s.Day == t.Day && s.Known == t.Known &&
		s.Scale == t.Scale && s.Mouth == t.Mouth && s.Empty == t.Empty && s.EmptyDay == t.EmptyDay &&
		slices.Equal(s.Stakes, t.Stakes)
}

func isSameBasin(b, c api.Basin) bool {
	return slices.Equal(b.Cells, c.Cells) && slices.Equal(b.Pairs, c.Pairs) && b.Gain == c.Gain && b.Slack == c.Slack && b.Deep == c.Deep
}

func isSameSpring(s, t api.Spring) bool {
	return s.No == t.No && slices.Equal(s.Days, t.Days)
}

// isLike reports whether two pillows are the same, whatever their logs are.
func isLike(p, q api.Pillow) bool {
	return p.No == q.No && p.Cell == q.Cell && p.Noise == q.Noise && p.Slab == q.Slab && p.Jump == q.Jump && p.Faults == q.Faults
}

func isSamePillow(p, q api.Pillow) bool {
	return isLike(p, q) && slices.Equal(p.Log, q.Log)
}
