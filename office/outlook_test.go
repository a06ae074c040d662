package office_test

import (
	"fmt"
	"slices"
	"testing"

	"snowline/api"
	"snowline/office"
)

// sights returns the sights of the scenes that remain.
func sights(t *testing.T, y *office.Model) [][]api.Sight {
	t.Helper()
	l, e := y.Scenes(0)
	if e != api.OK {
		t.Fatal(e)
	}
	var out [][]api.Sight
	for _, s := range l {
		out = append(out, s.Sights)
	}
	return out
}

// days returns the days that are looked at.
func days(t *testing.T, y *office.Model) []int {
	t.Helper()
	l, e := y.Scenes(0)
	if e != api.OK || len(l) == 0 {
		t.Fatal(l, e)
	}
	return l[0].Days
}

// P10.4: which sheets count, and what they say.
func TestSheetsThatCount(t *testing.T) {
	y := begun(t, "begin 1", "day 20")
	// All but the laws.
	takes(t, y, basic()[1:]...)
	one := api.Sight{No: 1, Cell: 1, Day: 20, Lo: 100, Hi: 100}
	same(t, "sights", sights(t, y), [][]api.Sight{{one}}, 0, 0)
	// Of no scale, of no cell, of a day to come, with no turn that is possible, and of a scale that is another one.
	takes(t, y, "course 2 1 20 2 1 100 20 100/100/200/0/0", "course 3 3 20 1 1 100 20 100/100/200/0/0", "course 4 1 21 1 1 100 20 100/100/200/0/0", "course 5 1 20 1 1 100 20 100/100/99/0/0")
	same(t, "sights", sights(t, y), [][]api.Sight{{one}}, 0, 0)
	// By No, not in the order in which they were added; with parts that fell out and soil; and at most 65536.
	takes(t, y, "course 0 2 19 1 10 100 20 300/200/1155/40/5")
	same(t, "sights", sights(t, y), [][]api.Sight{{{No: 0, Cell: 2, Day: 19, Lo: 107, Hi: 146}, one}}, 0, 0)
	same(t, "days", days(t, y), []int{19, 20}, 0, 0)
	takes(t, y, "scale 2 0")
	do(t, y, "day 1")
	got := sights(t, y)[0]
	same(t, "sights", got, []api.Sight{{No: 0, Cell: 2, Day: 19, Lo: 107, Hi: 146}, one, {No: 2, Cell: 1, Day: 20, Lo: 100, Hi: 100}, {No: 4, Cell: 1, Day: 21, Lo: 100, Hi: 100}}, 0, 0)
	takes(t, y, "cell 3 1000 0 10 5", "course 0 3 18 1 1 0 20 1/1/1000000/0/0")
	got = sights(t, y)[0]
	same(t, "sights", got[0], api.Sight{No: 0, Cell: 3, Day: 18, Lo: 65536, Hi: 65536}, 0, 0)
	same(t, "sights", got[3], api.Sight{No: 3, Cell: 3, Day: 20, Lo: 100, Hi: 100}, 0, 0)
	same(t, "days", days(t, y), []int{18, 20, 21}, 0, 0)
}

// P10.4: what the tests of the scale tell of the drift from the day of the empty tube on, as known now.
func TestSheetsAndTests(t *testing.T) {
	y := begun(t, "begin 1", "day 13")
	takes(t, y, "cell 1 1000 0 10 5", "scale 1 2", "course 1 1 13 1 1 100 10 200/200/200/0/0")
	want(t, y, "cell 0 1 13", "94 106")
	takes(t, y, "test 1 10 0 1")
	want(t, y, "cell 0 1 13", "94 106")
	takes(t, y, "test 1 13 3 3")
	want(t, y, "cell 0 1 13", "97 98")
	// More soil than snow, and a drift that makes the core lighter than nothing.
	takes(t, y, "course 1 1 13 1 1 100 10 200/200/104/0/100")
	want(t, y, "cell 0 1 13", "0 2")
	takes(t, y, "course 1 1 13 1 1 100 10 200/200/101/0/100")
	want(t, y, "cell 0 1 13", "0 65536")
}

// P10.4: without a climate days are not bound to each other; with one, each two of them are.
func TestChanges(t *testing.T) {
	y := begun(t, "begin 1", "day 20")
	takes(t, y, append(basic(), "course 2 2 18 1 1 100 20 100/100/210/0/0")...)
	do(t, y, "day 1")
	l, e := y.Scenes(0)
	if e != api.OK || len(l) != 1 || len(l[0].Changes) != 0 || !slices.Equal(l[0].Days, []int{18, 20, 21}) {
		t.Error(l, e)
	}
	want(t, y, "cell 0 1 21", "0 500")
	takes(t, y, "climate 1000 6 120 40 -200 250 400 410", "weather 18 0 5", "weather 19 50 10", "weather 20 -60 0")
	l, e = y.Scenes(0)
	if e != api.OK || len(l) != 1 {
		t.Fatal(l, e)
	}
	// At 1000 and 1200 metres, on the day 18 5 fall, on the day 19 20 and 15 melt (20.5 and 15.58, rounded down), if there is so much, on the day 20 nothing.
	same(t, "changes", l[0].Changes, []api.Change{
		{Cell: 1, From: 18, To: 20, Lo: -15}, {Cell: 2, From: 18, To: 20, Lo: -10}, {Cell: 1, From: 18, To: 21, Lo: -15}, {Cell: 2, From: 18, To: 21, Lo: -10}, {Cell: 1, From: 20, To: 21}, {Cell: 2, From: 20, To: 21},
	}, 0, 0)
	want(t, y, "cell 0 2 20", "100 110")
	// The cell 2 had 90 on the day 18, has at least 100 on the day 20, and won nothing: the scene does not remain.
	takes(t, y, "course 2 2 18 1 1 100 20 100/100/190/0/0")
	want(t, y, "scenes 0", "0")
}

// P10.4: the states of pillows make combinations, each of which is a scene if it remains.
func TestCombinations(t *testing.T) {
	y := begun(t, "begin 1", "day 20")
	takes(t, y, "cell 1 1000 0 10 5", "cell 2 1200 4 10 5")
	// The pillows 0 and 9 have no log that counts.
	takes(t, y, "pillow 0 1 1 1 1 1", "pillow 3 1 5 20 10 1", "pillow 4 2 0 7 0 0", "pillow 9 7 0 0 0 0", "shown 0 22 50", "shown 9 20 50")
	want(t, y, "scenes 0", "1")
	takes(t, y, "shown 3 19 100", "shown 3 20 150", "shown 4 18 60", "shown 3 21 100")
	sight := func(no, cell, day, lo, hi int) api.Sight {
		return api.Sight{No: no, Cell: cell, Day: day, Lo: lo, Hi: hi}
	}
	var should [][]api.Sight
	for _, first := range [][2]int{{95, 105}, {95, 125}} {
		for _, second := range [][2]int{{145, 155}, {145, 175}, {0, 65536}} {
			for _, other := range [][2]int{{60, 60}, {60, 67}} {
				should = append(should, []api.Sight{sight(4096, 1, 19, first[0], first[1]), sight(4097, 1, 20, second[0], second[1]), sight(4128, 2, 18, other[0], other[1])})
			}
		}
	}
	same(t, "sights", sights(t, y), should, 0, 0)
	same(t, "days", days(t, y), []int{18, 19, 20}, 0, 0)
	want(t, y, "cell 0 1 19", "95 125")
	want(t, y, "cell 0 1 20", "0 65536")
	want(t, y, "cell 0 2 18", "60 67")
	// A sheet leaves only the scenes in which the first pillow had a fault.
	takes(t, y, "scale 1 0", "test 1 20 0 0", "course 1 1 20 1 1 100 20 99/99/199/0/0")
	want(t, y, "scenes 0", "4")
	want(t, y, "cell 0 1 19", "95 125")
	// Now the loads of the pillow cannot change so fast.
	takes(t, y, "climate 1000 0 50 10 -100 150 300 300")
	same(t, "sights", sights(t, y)[0], []api.Sight{sight(1, 1, 20, 99, 99), sight(4096, 1, 19, 95, 105), sight(4097, 1, 20, 50, 115), sight(4128, 2, 18, 60, 60)}, 0, 0)
	// On the next day the whole log of the pillow 3 counts; and that of the pillow 9 when its cell is there.
	do(t, y, "day 1")
	want(t, y, "scenes 0", "8")
	same(t, "days", days(t, y), []int{18, 19, 20, 21}, 0, 0)
	takes(t, y, "cell 7 1000 0 1 9")
	l := sights(t, y)
	if len(l) != 16 {
		t.Fatal(len(l))
	}
	var numbers []int
	for _, s := range l[0] {
		numbers = append(numbers, s.No)
	}
	same(t, "numbers", numbers, []int{1, 4096, 4097, 4098, 4128, 4160}, 0, 0)
	same(t, "sight", l[0][5], sight(4160, 7, 20, 50, 50), 0, 0)
	// In the last combination there are slabs, and a fault, where there can be.
	same(t, "sights", l[15][1:], []api.Sight{sight(4096, 1, 19, 95, 125), sight(4097, 1, 20, 85, 135), sight(4098, 1, 21, 95, 125), sight(4128, 2, 18, 60, 67), sight(4160, 7, 20, 50, 50)}, 0, 0)
}

// P10.4: what goes wrong with scenes comes ahead of all else.
func TestWhatGoesWrong(t *testing.T) {
	wrong := func(y *office.Model, e api.Errno) {
		t.Helper()
		for _, line := range []string{"cell 0 9 3", "cell 0 1 20", "volume 0 9 0", "tell 0 5 1", "scenes 0", "clash 0", "tracks 0"} {
			fails(t, y, line, e)
		}
		if l, is, x := y.Accused(0); x != e || is || len(l) > 0 {
			t.Error(l, is, x)
		}
		want(t, y, "promise 0", "")
	}
	wrong(begun(t, "begin 1"), api.ErrNone)
	base := []string{"scale 1 0", "test 1 20 0 0", "cell 1 1000 0 10 5"}
	sheets := func(n int) []string {
		return many(n, func(i int) string { return fmt.Sprintf("course %d 1 %d 1 1 100 20 100/100/200/0/0", i, i+1) })
	}
	// Sixteen days, the present one among them, and one more.
	y := begun(t, "begin 1", "day 20")
	takes(t, y, append(base, sheets(15)...)...)
	want(t, y, "scenes 0", "1")
	takes(t, y, "course 90 1 20 1 1 100 20 100/100/200/0/0")
	want(t, y, "scenes 0", "1")
	takes(t, y, "course 91 1 19 1 1 100 20 100/100/200/0/0")
	wrong(y, api.ErrLimit)
	takes(t, y, "withdraw 91")
	want(t, y, "scenes 0", "1")
	// 120 pairs of days: with two cells 240 changes, with three 360.
	takes(t, y, "climate 1000 0 0 0 0 0 0 0", "cell 2 1000 0 1 5")
	want(t, y, "scenes 0", "1")
	takes(t, y, "cell 3 1000 0 1 5")
	wrong(y, api.ErrLimit)
	// Days that are more than 512 apart, with a climate.
	y = begun(t, "begin 1", "day 20")
	takes(t, y, append(base, sheets(1)...)...)
	do(t, y, "day 493")
	want(t, y, "cell 0 1 513", "0 65536")
	takes(t, y, "climate 1000 0 0 0 0 0 0 0")
	want(t, y, "cell 0 1 513", "100 100")
	do(t, y, "day 1")
	wrong(y, api.ErrLimit)
	// Four pillows of two cases each, of which one has two more.
	y = begun(t, "begin 1", "day 20")
	takes(t, y, "cell 1 1000 0 10 5")
	for i := range 4 {
		takes(t, y, fmt.Sprint("pillow ", i, " 1 0 0 0 3"), fmt.Sprint("shown ", i, " 18 5"))
	}
	want(t, y, "scenes 0", "16")
	takes(t, y, "shown 2 19 5")
	wrong(y, api.ErrLimit)
	// Pillows of four and of six cases; one of 18, and one of 16.
	y = begun(t, "begin 1", "day 20")
	takes(t, y, "cell 1 1000 0 10 5", "pillow 1 1 0 0 0 0", "shown 1 18 5", "shown 1 19 5", "pillow 2 1 0 0 0 1", "shown 2 19 5", "shown 2 20 5")
	wrong(y, api.ErrLimit)
	y = begun(t, "begin 1", "day 20")
	takes(t, y, "cell 1 1000 0 10 5", "pillow 2 1 0 0 0 9", "shown 2 18 5", "shown 2 19 5", "shown 2 20 5")
	wrong(y, api.ErrLimit)
	y = begun(t, "begin 1", "day 20")
	takes(t, y, "cell 1 1000 0 10 5", "pillow 2 1 0 0 0 1", "shown 2 18 5", "shown 2 19 5", "shown 2 20 5")
	want(t, y, "scenes 0", "16")
	// One pillow with 54 cases, and with more than 64.
	y = begun(t, "begin 1", "day 20")
	takes(t, y, "cell 1 1000 0 10 5", "pillow 1 1 0 0 0 9", "shown 1 16 5", "shown 1 17 5", "shown 1 18 5", "shown 1 19 5")
	wrong(y, api.ErrLimit)
	takes(t, y, "shown 1 20 5")
	wrong(y, api.ErrLimit)
	// So it is if another pillow has no case; with few cases there is no scene then.
	takes(t, y, "climate 1000 0 0 0 0 0 0 0", "pillow 0 1 0 0 0 0", "shown 0 19 5", "shown 0 20 6")
	wrong(y, api.ErrLimit)
	y = begun(t, "begin 1", "day 20")
	takes(t, y, "cell 1 1000 0 10 5", "climate 1000 0 0 0 0 0 0 0", "pillow 0 1 0 0 0 0", "shown 0 19 5", "shown 0 20 6", "pillow 1 1 0 0 0 9", "shown 1 18 5", "shown 1 19 5", "shown 1 20 5")
	want(t, y, "scenes 0", "0")
	fails(t, y, "cell 0 2 20", api.ErrNone)
	fails(t, y, "cell 0 1 21", api.ErrNone)
	fails(t, y, "cell 0 1 20", api.ErrClash)
	fails(t, y, "tracks 0", api.ErrClash)
	want(t, y, "clash 0", "no")
	// Changes can be too many even if there is no case: of 8 days and 9 cells 252, of 12 days and 4 cells 264.
	for _, x := range []struct {
		days, cells int
		isTooMany   bool
	}{{8, 9, false}, {12, 3, false}, {12, 4, true}, {16, 2, false}, {16, 3, true}, {7, 12, false}, {8, 10, true}} {
		y = begun(t, "begin 1", "day 20")
		takes(t, y, "climate 1000 0 0 0 0 0 0 0", "pillow 0 1 0 0 0 0", "pillow 1 1 0 0 0 0", "scale 1 0")
		takes(t, y, many(x.cells, func(i int) string { return fmt.Sprint("cell ", i, " 1000 0 1 5") })...)
		takes(t, y, many(x.days-2, func(i int) string { return fmt.Sprintf("course %d 1 %d 1 1 100 %d 9/9/109/0/0", i, i+1, i+1) })...)
		takes(t, y, "shown 0 19 5", "shown 0 20 6")
		if x.isTooMany {
			wrong(y, api.ErrLimit)
		} else {
			want(t, y, "scenes 0", "0")
		}
	}
}

// P10.4: a bound can come from a scene that is neither the first one nor the last one.
func TestBoundsOfAllScenes(t *testing.T) {
	y := begun(t, "begin 1", "day 20")
	takes(t, y, "cell 1 1000 0 10 5", "climate 1000 0 50 10 -100 150 300 300", "pillow 1 1 5 20 0 1", "shown 1 18 100", "shown 1 19 104", "shown 1 20 90", "spring 1 20 150/0 150/0 150/0")
	want(t, y, "scenes 0", "16")
	// A fault on the day 20: 54 are left of 99, or 10 more than 129 have come. With faults on other days it had from 85 to 115.
	want(t, y, "cell 0 1 20", "54 139")
	want(t, y, "volume 0 5 23", "540 1350")
}

// P10.4: bounds of cells, on days that are looked at.
func TestCell(t *testing.T) {
	y := morning(t)
	for _, x := range []struct {
		cell, day int
		span      api.Span
		e         api.Errno
	}{
		{1, 20, api.Span{Lo: 100, Hi: 100}, 0}, {2, 20, api.Span{Lo: 100, Hi: 130}, 0}, {3, 20, api.Span{}, api.ErrNone}, {1, 19, api.Span{}, api.ErrNone}, {1, 21, api.Span{}, api.ErrNone}, {0, 0, api.Span{}, api.ErrNone}, {4095, 1048576, api.Span{}, api.ErrNone},
		{4096, 20, api.Span{}, api.ErrArg}, {-1, 20, api.Span{}, api.ErrArg}, {1, -1, api.Span{}, api.ErrArg}, {1, 1048577, api.Span{}, api.ErrArg},
	} {
		if s, e := y.Cell(0, x.cell, x.day); s != x.span || e != x.e {
			t.Error(x, s, e)
		}
	}
	// An argument that is not valid comes ahead of what goes wrong with scenes, and behind the office and its book.
	if _, e := y.Cell(1, 4096, 0); e != api.ErrArg {
		t.Error(e)
	}
	do(t, y, "crash 1 1")
	fails(t, y, "write 1 withdraw 1", api.ErrDown)
	if _, e := y.Cell(1, 4096, 0); e != api.ErrNotNow {
		t.Error(e)
	}
	if _, e := y.Volume(1, 4096, 0); e != api.ErrNotNow {
		t.Error(e)
	}
}

// P10.4: volumes of valleys, in today's springs alone.
func TestVolume(t *testing.T) {
	y := morning(t)
	fails(t, y, "volume 0 5 20", api.ErrNone)
	takes(t, y, "climate 1000 0 50 10 -100 150 300 300", "spring 2 21 100/0 100/0", "spring 3 19 100/0 100/0")
	fails(t, y, "volume 0 5 20", api.ErrNone)
	takes(t, y, "spring 1 20 100/0 100/0 100/3")
	for date, out := range []string{"0 0", "600 600", "1200 1200", "1860 1860"} {
		want(t, y, fmt.Sprint("volume 0 5 ", 20+date), out)
	}
	for _, x := range []struct {
		valley, date int
		e            api.Errno
	}{{5, 19, api.ErrArg}, {5, 24, api.ErrArg}, {6, 21, api.ErrNone}, {6, 24, api.ErrNone}, {0, 0, api.ErrNone}, {4095, 1048576, api.ErrNone}, {4096, 21, api.ErrArg}, {-1, 21, api.ErrArg}, {5, -1, api.ErrArg}, {5, 1048577, api.ErrArg}} {
		if s, e := y.Volume(0, x.valley, x.date); s != (api.Span{}) || e != x.e {
			t.Error(x, s, e)
		}
	}
	// With a colder spring less comes, and with more snow not more than melts; a part of the basin is a valley of its own.
	takes(t, y, "spring 4 20 50/0 20/0 0/10", "cell 3 2000 4 7 6")
	want(t, y, "volume 0 5 22", "420 1200")
	want(t, y, "volume 0 6 22", "0 420")
	want(t, y, "volume 0 6 21", "0 210")
	// The springs of the next day are other ones; until then from 45 less to 10 more can be left of 100.
	do(t, y, "day 1")
	want(t, y, "volume 0 5 22", "600 600")
	want(t, y, "volume 0 5 23", "1100 1200")
	// If no scene remains, ErrClash comes ahead of what is wrong with the date, and behind a valley without cells.
	takes(t, y, "course 2 2 21 1 1 100 20 400/400/500/0/0")
	fails(t, y, "volume 0 5 22", api.ErrClash)
	fails(t, y, "volume 0 5 1", api.ErrClash)
	fails(t, y, "volume 0 7 22", api.ErrNone)
	do(t, y, "day 1")
	fails(t, y, "volume 0 5 22", api.ErrNone)
}

// P10.4: the volume is from the least to the greatest one of all scenes that remain.
func TestVolumeOfScenes(t *testing.T) {
	y := begun(t, "begin 1", "day 20")
	takes(t, y, "cell 1 1000 0 10 5", "pillow 1 1 0 7 0 1", "shown 1 20 5", "climate 1000 0 50 10 -100 150 300 300", "spring 1 20 100/0")
	want(t, y, "scenes 0", "2")
	want(t, y, "cell 0 1 20", "5 12")
	want(t, y, "volume 0 5 21", "50 120")
}

// P10.4: Accused names sheets, not pillows.
func TestAccused(t *testing.T) {
	y := morning(t)
	want(t, y, "clash 0", "no")
	takes(t, y, "pillow 3 2 0 0 0 0", "shown 3 20 400")
	want(t, y, "scenes 0", "0")
	want(t, y, "clash 0", "no")
	takes(t, y, "course 2 2 20 1 1 100 20 400/400/500/0/0", "course 3 2 20 1 1 100 20 400/400/210/0/0")
	want(t, y, "clash 0", "yes")
	l, is, e := y.Accused(0)
	if e != api.OK || !is || !slices.Equal(l, []int{1, 2}) && !slices.Equal(l, []int{2, 3}) {
		t.Error(l, is, e)
	}
	takes(t, y, "withdraw 2")
	want(t, y, "clash 0", "no")
	if l, is, e := y.Accused(0); e != api.OK || is || len(l) > 0 {
		t.Error(l, is, e)
	}
}

// P10.4: tracks that are open in all scenes.
func TestOpenTracks(t *testing.T) {
	y := begun(t, "begin 1", "day 20")
	takes(t, y, "laws 0 0 286", "cell 1 1000 0 10 5", "site 1 1 0", "site 2 1 0", "track 9 1 2 1 1 60", "track 4 2 1 1 0 0", "track 5 2 1 1 1 25", "track 3 1 2 1 2 30")
	want(t, y, "tracks 0", "4 5")
	takes(t, y, "pillow 3 1 0 1 0 0", "shown 3 20 285")
	// As a slab of 1 can have carried a part, there can be 286, which break.
	want(t, y, "scenes 0", "2")
	want(t, y, "tracks 0", "4 5")
	do(t, y, "day 1")
	takes(t, y, "shown 3 21 284")
	want(t, y, "tracks 0", "4 5 9")
	l, e := y.Open(0)
	same(t, "Open", l, []int{4, 5, 9}, e, api.OK)
	takes(t, y, "scale 1 0", "test 1 20 0 0", "course 1 1 21 1 1 100 20 1/1/386/0/0")
	want(t, y, "scenes 0", "0")
	fails(t, y, "tracks 0", api.ErrClash)
	none := begun(t, "begin 1", "write 0 cell 1 1000 0 10 5")
	want(t, none, "tracks 0", "")
}
