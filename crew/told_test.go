package crew_test

import (
	"math"
	"math/rand"
	"slices"
	"testing"

	"snowline/api"
	"snowline/basin"
	"snowline/crew"
)

// above is a scene with the cell 7, that has from 100 to 160 millimetres, and the cell 9 above it, that has at most 30 more.
func above() api.Scene {
	s := oneCell(91, 100, 160)
	s.Basin.Cells = append(s.Basin.Cells, api.Cell{No: 9, Height: 2100, Area: 2})
	s.Basin.Pairs, s.Basin.Slack = [][2]int{{0, 1}}, 30
	return s
}

// P7.5, with the chapter's fourth example.
func TestWorstAndTold(t *testing.T) {
	deep := oneCell(91, 65530, 65536)
	later := oneCell(91, 100, 160)
	later.Days = []int{91, 95}
	later.Changes = []api.Change{{Cell: 7, From: 91, To: 95, Lo: -10, Hi: 5}}
	for i, x := range []struct {
		s                api.Scene
		cells            []int
		day, cell, width int
		want             int
		told             api.Span
		narrows          bool
	}{
		{oneCell(91, 100, 160), []int{7}, 91, 7, 20, 200, api.Span{Lo: 100, Hi: 120}, true},
		{oneCell(91, 100, 160), []int{7}, 91, 7, 59, 590, api.Span{Lo: 100, Hi: 159}, true},
		{oneCell(91, 100, 160), []int{7}, 91, 7, 60, 600, api.Span{Lo: 100, Hi: 160}, false},
		{oneCell(91, 100, 160), []int{7}, 91, 7, 68, 600, api.Span{Lo: 92, Hi: 160}, false},
		{oneCell(91, 3, 9), []int{7}, 91, 7, 100, 60, api.Span{Lo: 0, Hi: 9}, false},
		{oneCell(91, 3, 9), []int{7}, 91, 7, 8, 60, api.Span{Lo: 1, Hi: 9}, false},
		{oneCell(91, 3, 9), []int{7}, 91, 7, 4, 40, api.Span{Lo: 3, Hi: 7}, true},
		{deep, []int{7}, 91, 7, 3, 30, api.Span{Lo: 65530, Hi: 65533}, true},
		{oneCell(91, 65536, 65536), []int{7}, 91, 7, 3, 0, api.Span{Lo: 65533, Hi: 65536}, false},
		{oneCell(91, 50, 50), []int{7}, 91, 7, 128, 0, api.Span{Lo: 0, Hi: 50}, false},
		{above(), []int{7}, 91, 7, 20, 200, api.Span{Lo: 100, Hi: 120}, true},
		{above(), []int{9}, 91, 7, 20, 100, api.Span{Lo: 100, Hi: 120}, true},
		{above(), []int{7, 9}, 91, 7, 0, 60, api.Span{Lo: 100, Hi: 100}, true},
		{above(), []int{7, 9}, 91, 9, 0, 300, api.Span{Lo: 130, Hi: 130}, true},
		// What is known of a day narrows another one; the same cell can have from 90 to 165 on it.
		{later, []int{7}, 95, 7, 10, 100, api.Span{Lo: 90, Hi: 100}, true},
		{later, []int{7}, 91, 7, 10, 100, api.Span{Lo: 100, Hi: 110}, true},
	} {
		if n, e := crew.Worst(x.s, x.cells, x.day, x.cell, x.width); n != x.want || e != api.OK {
			t.Error(i, n, e)
		}
		if told, narrows, e := crew.Told(x.s, x.cells, x.day, x.cell, x.width); told != x.told || narrows != x.narrows || e != api.OK {
			t.Error(i, told, narrows, e)
		}
	}
	// A cell that is not bound to the one that is measured stays as it was, whatever is told.
	apart := above()
	apart.Basin.Pairs, apart.Basin.Deep = nil, 200
	if n, e := crew.Worst(apart, []int{9}, 91, 7, 5); n != 400 || e != api.OK {
		t.Error(n, e)
	}
	if told, narrows, e := crew.Told(apart, []int{9}, 91, 7, 5); told != (api.Span{Lo: 95, Hi: 100}) || narrows || e != api.OK {
		t.Error(told, narrows, e)
	}
}

// P7.5
func TestWorstErrors(t *testing.T) {
	full := above()
	for len(full.Sights) < api.MaxSights {
		full = with(full, full.Sights[0])
	}
	almost := full
	almost.Sights = almost.Sights[1:]
	for i, x := range []struct {
		s           api.Scene
		cells       []int
		day         int
		cell, width int
		want        api.Errno
	}{
		{above(), []int{7}, 91, 7, 68, api.OK}, {above(), []int{7}, 91, 7, 69, api.ErrLimit}, {above(), []int{7}, 91, 9, 38, api.OK}, {above(), []int{7}, 91, 9, 39, api.ErrLimit},
		{oneCell(91, 0, 128), []int{7}, 91, 7, 0, api.OK}, {oneCell(91, 0, 129), []int{7}, 91, 7, 0, api.ErrLimit}, {above(), []int{7}, 91, 7, 65536, api.ErrLimit},
		{above(), []int{7, 9}, 91, 9, 65537, api.ErrArg}, {above(), []int{7}, 91, 7, -1, api.ErrArg}, {above(), []int{7}, 91, 7, math.MaxInt, api.ErrArg},
		{above(), nil, 91, 7, 5, api.ErrArg}, {above(), []int{8}, 91, 7, 5, api.ErrArg}, {above(), []int{9, 7}, 91, 7, 5, api.ErrArg}, {above(), []int{7, 7}, 91, 7, 5, api.ErrArg},
		{above(), []int{7, 9, 10}, 91, 7, 5, api.ErrArg}, {above(), []int{7}, 90, 7, 5, api.ErrArg}, {above(), []int{7}, -91, 7, 5, api.ErrArg}, {above(), []int{7}, 91, 8, 5, api.ErrArg},
		{above(), []int{7}, 91, -1, 5, api.ErrArg}, {full, []int{7}, 91, 7, 5, api.ErrLimit}, {almost, []int{7}, 91, 7, 5, api.OK}, {full, []int{7}, 91, 7, -5, api.ErrArg},
		{noField(), []int{7}, 91, 7, 5, api.ErrClash}, {noField(), []int{7}, 91, 7, 65536, api.ErrClash}, {noField(), []int{7}, 91, 7, 65537, api.ErrArg},
		{above(), []int{8}, 90, 7, 5, api.ErrArg}, {above(), []int{8}, 91, 8, 5, api.ErrArg}, {above(), nil, 90, 8, -5, api.ErrArg},
	} {
		n, e := crew.Worst(x.s, x.cells, x.day, x.cell, x.width)
		if e != x.want || e != api.OK && n != 0 {
			t.Error(i, n, e)
		}
		told, narrows, e := crew.Told(x.s, x.cells, x.day, x.cell, x.width)
		if e != x.want || e != api.OK && (narrows || told != api.Span{}) {
			t.Error(i, told, narrows, e)
		}
	}
}

// measured returns what a measurement tells for v, how wide the volume is then, and whether it can tell that.
func measured(t *testing.T, s api.Scene, cells []int, day, cell, width, v int) (api.Span, int, bool) {
	told := api.Span{Lo: max(v, 0), Hi: min(v+width, api.MaxWater)}
	x, e := basin.With(s, api.Sight{Cell: cell, Day: day, Lo: told.Lo, Hi: told.Hi})
	if e != api.OK {
		t.Fatal(s, cell, day, told, e)
	}
	volume, e := basin.Valley(x, cells, day)
	if e != api.OK && e != api.ErrClash {
		t.Fatal(x, cells, day, e)
	}
	return told, volume.Hi - volume.Lo, e == api.OK
}

// P7.5, P7.11, P0.2: against all that a measurement can tell.
func TestWorstByTelling(t *testing.T) {
	rnd := rand.New(rand.NewSource(9))
	narrower, limits := 0, 0
	for range 1200 {
		s := someScene(rnd, pick(rnd, []int{0, 40, 300, 65500}))
		day, cells, cell, width := pick(rnd, s.Days), someCells(rnd, s), pick(rnd, s.Basin.Cells).No, rnd.Intn(3)*rnd.Intn(30)
		water, _ := basin.Cell(s, cell, day)
		if water.Hi-water.Lo+width > 128 {
			limits++
			if n, e := crew.Worst(s, cells, day, cell, width); n != 0 || e != api.ErrLimit {
				t.Fatal(s, cells, day, cell, width, n, e)
			}
			continue
		}
		var want api.Span
		worst := -1
		for v := max(water.Lo-width-2, -width); v <= min(water.Hi+2, api.MaxWater); v++ {
			told, wide, can := measured(t, s, cells, day, cell, width, v)
			if can != (v+width >= water.Lo && v <= water.Hi) {
				t.Fatal(s, cells, day, cell, width, v, can)
			}
			if can && wide > worst {
				want, worst = told, wide
			}
		}
		volume, _ := basin.Valley(s, cells, day)
		before := volume.Hi - volume.Lo
		if n, e := crew.Worst(s, cells, day, cell, width); n != worst || n > before || e != api.OK {
			t.Fatal(s, cells, day, cell, width, n, e)
		}
		if told, narrows, e := crew.Told(s, cells, day, cell, width); told != want || narrows != (worst < before) || e != api.OK {
			t.Fatal(s, cells, day, cell, width, told, narrows, e)
		}
		if more, e := crew.Worst(s, cells, day, cell, width+1); more < worst && e == api.OK {
			t.Fatal(s, cells, day, cell, width, more)
		}
		if 0 < worst && worst < before {
			narrower++
		}
	}
	if narrower < 300 || limits < 20 {
		t.Error("too few cases:", narrower, limits)
	}
}

// P7.11: in scenes as large as they can be.
func TestWorstOfLargeScenes(t *testing.T) {
	rnd := rand.New(rand.NewSource(10))
	for range 3 {
		_, s := largest(rnd)
		for range 5 {
			day, cells, cell := pick(rnd, s.Days), someCells(rnd, s), rnd.Intn(api.MaxCells)
			water, e := basin.Cell(s, cell, day)
			if e != api.OK || water.Hi-water.Lo > 128 {
				t.Fatal(water, e)
			}
			width := rnd.Intn(min(20, 129-water.Hi+water.Lo))
			worst, e := crew.Worst(s, cells, day, cell, width)
			told, _, told2 := crew.Told(s, cells, day, cell, width)
			if e != api.OK || told2 != api.OK || told.Hi-told.Lo != width {
				t.Fatal(worst, told, e, told2)
			}
			for _, v := range []int{water.Lo - width, water.Lo, (water.Lo + water.Hi) / 2, water.Hi, told.Lo} {
				x, wide, can := measured(t, s, cells, day, cell, width, v)
				if !can || wide > worst || x == told && wide != worst {
					t.Fatal(cells, day, cell, width, v, wide, worst)
				}
			}
		}
	}
}

// P7.5: what is measured again and again stays within what was told.
func TestMeasuredAgain(t *testing.T) {
	s, cells := above(), []int{7, 9}
	for _, width := range []int{30, 20, 10, 0} {
		for _, cell := range cells {
			worst, e := crew.Worst(s, cells, 91, cell, width)
			told, narrows, _ := crew.Told(s, cells, 91, cell, width)
			if e != api.OK || !narrows {
				t.Fatal(width, cell, worst, told, e)
			}
			s = with(s, api.Sight{No: 5, Cell: cell, Day: 91, Lo: told.Lo, Hi: told.Hi})
			if volume, e := basin.Valley(s, cells, 91); volume.Hi-volume.Lo != worst || e != api.OK {
				t.Fatal(width, cell, worst, volume, e)
			}
		}
	}
	if !slices.Equal(cells, []int{7, 9}) {
		t.Error(cells)
	}
}
