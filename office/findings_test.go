package office_test

import (
	"fmt"
	"testing"

	"snowline/api"
	"snowline/office"
)

// filled returns a model of eight offices on the day 20 in which forms were written, 60 by each office, in order, and sent to all.
func filled(t *testing.T, forms []string) *office.Model {
	t.Helper()
	y := begun(t, "begin 8", "day 20")
	for i, form := range forms {
		do(t, y, fmt.Sprint("write ", i/60, " ", form))
	}
	do(t, y, "sendall")
	return y
}

// many returns forms made of the numbers from 0 on.
func many(n int, form func(int) string) []string {
	var out []string
	for i := range n {
		out = append(out, form(i))
	}
	return out
}

// P10.3: an office that knows nothing.
func TestNothingKnown(t *testing.T) {
	y := begun(t, "begin 1")
	_, e := y.Basin(0)
	same(t, "Basin", 0, 0, e, api.ErrNone)
	_, e = y.Climate(0)
	same(t, "Climate", 0, 0, e, api.ErrNone)
	register, e := y.Register(0)
	same(t, "Register", register, api.Register{}, e, api.OK)
	region, e := y.Range(0)
	same(t, "Range", region, api.Range{}, e, api.OK)
	for what, x := range map[string][]any{
		"Scales": pair(y.Scales(0)), "Sheets": pair(y.Sheets(0)), "Pillows": pair(y.Pillows(0)), "Log": pair(y.Log(0)), "Springs": pair(y.Springs(0)), "Told": pair(y.Told(0)),
	} {
		if fmt.Sprint(x) != "[[] 0]" {
			t.Error(what, x)
		}
	}
}

// P10.3: scales and their tests.
func TestScales(t *testing.T) {
	y := begun(t, "begin 1", "day 20")
	refuses(t, y, "test 3 20 0 1")
	takes(t, y, "scale 3 2", "scale 1 0", "test 3 20 0 1", "test 3 22 5 5", "test 1 0 -7 -7")
	refuses(t, y, "scale 3 4", "scale 3 2", "test 2 20 0 1", "test 3 21 10 10")
	do(t, y, "day 1")
	takes(t, y, "test 3 19 1 2")
	scales, e := y.Scales(0)
	same(t, "Scales", scales, []api.Scale{
		{No: 1, Rate: 0, Tests: []api.Test{{Day: 0, Known: 20, Lo: -7, Hi: -7}}},
		{No: 3, Rate: 2, Tests: []api.Test{{Day: 20, Known: 20, Lo: 0, Hi: 1}, {Day: 22, Known: 20, Lo: 5, Hi: 5}, {Day: 19, Known: 21, Lo: 1, Hi: 2}}},
	}, e, api.OK)
	takes(t, y, "scale 0 0", "scale 4 0", "scale 5 0", "scale 6 0", "scale 7 0", "scale 4095 0")
	refuses(t, y, "scale 8 0", "scale 4095 1")
	if l, _ := y.Scales(0); len(l) != 8 {
		t.Error(l)
	}
	full := filled(t, append([]string{"scale 1 0"}, many(65, func(i int) string { return fmt.Sprint("test 1 ", i, " 0 0") })...))
	want(t, full, "refused 5", "1")
	if l, _ := full.Scales(5); len(l) != 1 || len(l[0].Tests) != 64 || l[0].Tests[63].Day != 63 {
		t.Error(l)
	}
}

// P10.3: sheets, those that are withdrawn, and those that stand.
func TestSheets(t *testing.T) {
	y := begun(t, "begin 1", "day 20")
	stake := func(full int) []api.Stake { return []api.Stake{{Depth: 300, Core: 200, Full: full, Lost: 40, Soil: 5}} }
	takes(t, y, "course 7 2 10 0 10 100 11 300/200/1155/40/5", "course 3 4 1000 5 11 101 1001 300/200/1155/40/5 1/0/2/1/3", "course 7 2 10 0 10 100 11 300/200/1156/40/5")
	sheets, e := y.Sheets(0)
	same(t, "Sheets", sheets, []api.Sheet{
		{No: 3, Cell: 4, Day: 1000, Known: 20, Scale: 5, Mouth: 11, Empty: 101, EmptyDay: 1001, Stakes: append(stake(1155), api.Stake{Depth: 1, Full: 2, Lost: 1, Soil: 3})},
		{No: 7, Cell: 2, Day: 10, Known: 20, Mouth: 10, Empty: 100, EmptyDay: 11, Stakes: stake(1156)},
	}, e, api.OK)
	do(t, y, "day 1")
	takes(t, y, "course 7 2 10 0 10 100 11 300/200/1157/40/5", "withdraw 3", "withdraw 9")
	refuses(t, y, "withdraw 3", "withdraw 9")
	sheets, e = y.Sheets(0)
	same(t, "Sheets", sheets, []api.Sheet{{No: 7, Cell: 2, Day: 10, Known: 21, Mouth: 10, Empty: 100, EmptyDay: 11, Stakes: stake(1157)}}, e, api.OK)
	// A number that was withdrawn does not come back, and withdrawing it needs no sheet.
	takes(t, y, "course 9 2 10 0 10 100 11 300/200/1155/40/5", "course 3 2 10 0 10 100 11 300/200/1155/40/5")
	if l, _ := y.Sheets(0); len(l) != 1 {
		t.Error(l)
	}
	full := filled(t, many(65, func(i int) string { return fmt.Sprint("course ", i/2, " 2 10 0 10 100 11 300/200/1155/40/5") }))
	want(t, full, "refused 5", "1")
	if l, _ := full.Sheets(5); len(l) != 32 {
		t.Error(len(l))
	}
}

// P10.3: the laws, the cells and the pairs of the basin.
func TestBasin(t *testing.T) {
	y := begun(t, "begin 1", "day 20")
	takes(t, y, "cell 5 1000 3 10 5")
	b, e := y.Basin(0)
	same(t, "Basin", b, api.Basin{Cells: []api.Cell{{No: 5, Height: 1000, Aspect: 3, Area: 10}}, Slack: 65536, Deep: 65536}, e, api.OK)
	refuses(t, y, "pair 5 6", "pair 6 5", "pair 5 5")
	takes(t, y, "cell 9 900 2 20 6", "pair 9 5", "cell 0 1000 4 30 5", "laws 1 2 3", "pair 0 5", "cell 7 1100 3 40 7", "pair 9 7")
	refuses(t, y, "laws 1 2 3", "laws 4 5 6", "cell 5 1 1 1 1", "pair 5 9", "pair 5 0", "pair 0 5", "pair 7 0", "pair 9 7", "pair 8 9", "pair 8 0", "pair 0 6")
	takes(t, y, "pair 0 7")
	b, e = y.Basin(0)
	same(t, "Basin", b, api.Basin{
		Cells: []api.Cell{{No: 0, Height: 1000, Aspect: 4, Area: 30}, {No: 5, Height: 1000, Aspect: 3, Area: 10}, {No: 7, Height: 1100, Aspect: 3, Area: 40}, {No: 9, Height: 900, Aspect: 2, Area: 20}},
		Pairs: [][2]int{{3, 1}, {0, 1}, {3, 2}, {0, 2}}, Gain: 1, Slack: 2, Deep: 3,
	}, e, api.OK)
	takes(t, y, many(8, func(i int) string { return fmt.Sprint("cell ", 10+i, " 1000 0 1 5") })...)
	refuses(t, y, "cell 1 1000 0 1 5", "cell 10 1000 0 1 5")
	full := filled(t, append(many(12, func(i int) string { return fmt.Sprint("cell ", i, " 1000 0 1 5") }), many(26, func(i int) string { return fmt.Sprint("pair ", i%11, " ", i%11+1+i/11) })...))
	want(t, full, "refused 0", "2")
	if b, _ := full.Basin(0); len(b.Pairs) != 24 {
		t.Error(len(b.Pairs), b.Pairs)
	}
}

// P10.3: the climate, the log of its weather, and springs.
func TestWeather(t *testing.T) {
	y := begun(t, "begin 1", "day 20")
	refuses(t, y, "weather 10 0 5", "spring 1 20 0/0")
	takes(t, y, "climate 1000 6 50 40 -200 250 400 410")
	refuses(t, y, "climate 1000 6 50 40 -200 250 400 410")
	c, e := y.Climate(0)
	same(t, "Climate", c, api.Climate{Base: 1000, Lapse: 6, Swing: 50, Wettest: 40, Coldest: -200, Warmest: 250, Factor: api.Span{Lo: 400, Hi: 410}}, e, api.OK)
	takes(t, y, "weather 13 60 0", "weather 10 0 5", "spring 7 13 60/0 10/40", "spring 2 20 0/0", "spring 5 12 150/0 100/0")
	refuses(t, y, "weather 13 60 0", "weather 13 50 1", "weather 12 120 0", "weather 9 251 0", "weather 9 -201 0", "weather 9 0 41", "spring 7 13 0/0", "spring 8 13 60/0 111/0", "spring 8 13 251/0", "spring 8 13 0/41")
	log, e := y.Log(0)
	same(t, "Log", log, []api.Weather{{Day: 10, Temp: 0, Rain: 5}, {Day: 13, Temp: 60, Rain: 0}}, e, api.OK)
	// The spring 5 does not fit the log, and is not left; its number is not free.
	springs, e := y.Springs(0)
	same(t, "Springs", springs, []api.Spring{
		{No: 2, Days: []api.Weather{{Day: 20, Temp: 0, Rain: 0}}},
		{No: 7, Days: []api.Weather{{Day: 13, Temp: 60, Rain: 0}, {Day: 14, Temp: 10, Rain: 40}}},
	}, e, api.OK)
	refuses(t, y, "spring 5 20 0/0")
	takes(t, y, many(13, func(i int) string { return fmt.Sprint("spring ", 10+i, " 20 0/0") })...)
	refuses(t, y, "spring 30 20 0/0")
	if l, _ := y.Springs(0); len(l) != 15 {
		t.Error(l)
	}
	takes(t, y, "weather 20 10 0")
	if l, _ := y.Springs(0); len(l) != 1 || l[0].No != 7 {
		t.Error(l)
	}
	// Eight offices cannot write so much weather that the log is full.
	full := filled(t, append([]string{"climate 1000 6 50 40 -200 250 400 410"}, many(479, func(i int) string { return fmt.Sprint("weather ", 1000-i, " 0 ", i%41) })...))
	want(t, full, "refused 7", "0")
	if l, _ := full.Log(7); len(l) != 479 || l[0].Day != 522 || l[478].Rain != 0 {
		t.Error(len(l))
	}
}

// P10.3: pillows and their logs.
func TestPillowLogs(t *testing.T) {
	y := begun(t, "begin 1", "day 20")
	refuses(t, y, "shown 3 10 100")
	takes(t, y, "pillow 3 1 5 40 20 2", "pillow 0 9 6 41 21 3", "shown 3 10 100", "shown 3 30 0", "shown 0 2 65536")
	refuses(t, y, "pillow 3 1 5 40 20 1", "shown 3 30 0", "shown 3 29 0", "shown 1 29 0")
	pillows, e := y.Pillows(0)
	same(t, "Pillows", pillows, []api.Pillow{
		{No: 0, Cell: 9, Noise: 6, Slab: 41, Jump: 21, Faults: 3, Log: []api.Shown{{Day: 2, Weight: 65536}}},
		{No: 3, Cell: 1, Noise: 5, Slab: 40, Jump: 20, Faults: 2, Log: []api.Shown{{Day: 10, Weight: 100}, {Day: 30, Weight: 0}}},
	}, e, api.OK)
	takes(t, y, "pillow 4 1 0 0 0 0", "pillow 5 1 0 0 0 0")
	refuses(t, y, "pillow 6 1 0 0 0 0")
	takes(t, y, many(31, func(i int) string { return fmt.Sprint("shown 0 ", 3+i, " 0") })...)
	refuses(t, y, "shown 0 100 0")
}

// P10.3: the register, and ponds.
func TestRegister(t *testing.T) {
	y := begun(t, "begin 1", "day 20")
	refuses(t, y, "pass 7 20 2", "hold 7 20", "end 7 20", "free 7 20")
	takes(t, y, "grant 7 10 1 5 11 12 13")
	refuses(t, y, "grant 7 10 1 5 11 12 13", "pass 7 9 2", "hold 8 20")
	do(t, y, "day 1")
	takes(t, y, "pass 7 20 2", "hold 7 21", "free 7 22", "end 7 23", "grant 9 1 2 3 4 5 6")
	register, e := y.Register(0)
	same(t, "Register", register, api.Register{Events: []api.Event{
		{No: 0, Known: 20, Day: 10, Kind: api.GrantE, Right: 7, Holder: 1, Valley: 5, From: 11, To: 12, Claim: 13},
		{No: 1, Known: 21, Day: 20, Kind: api.PassE, Right: 7, Holder: 2},
		{No: 2, Known: 21, Day: 21, Kind: api.HoldE, Right: 7},
		{No: 3, Known: 21, Day: 22, Kind: api.FreeE, Right: 7},
		{No: 4, Known: 21, Day: 23, Kind: api.EndE, Right: 7},
		{No: 5, Known: 21, Day: 1, Kind: api.GrantE, Right: 9, Holder: 2, Valley: 3, From: 4, To: 5, Claim: 6},
	}}, e, api.OK)
	takes(t, y, "pond 5 50", "pond 2 0")
	refuses(t, y, "pond 5 51", "pond 2 0")
	s, e := y.Share(0)
	same(t, "ponds", s.Ponds, []api.Pond{{Valley: 2, Room: 0}, {Valley: 5, Room: 50}}, e, api.OK)
	full := filled(t, append(many(257, func(i int) string { return fmt.Sprint("grant ", i, " 21 1 1 1 1 1") }), many(65, func(i int) string { return fmt.Sprint("pond ", i, " 1") })...))
	want(t, full, "refused 6", "2")
	if r, _ := full.Register(6); len(r.Events) != 256 {
		t.Error(len(r.Events))
	}
	if s, e := full.Share(6); e != api.OK || len(s.Ponds) != 64 || s.Ponds[63].Valley != 63 {
		t.Error(len(s.Ponds), e)
	}
}

// P10.3: sites and tracks.
func TestRange(t *testing.T) {
	y := begun(t, "begin 1", "day 20")
	refuses(t, y, "track 1 1 2 60 0 0")
	takes(t, y, "site 2 2 7", "site 1 1 0")
	refuses(t, y, "site 2 1 0", "track 1 1 3 60 0 0")
	takes(t, y, "track 5 1 2 60 7 30", "track 3 2 1 61 0 0", "site 0 3 0")
	refuses(t, y, "track 5 1 2 60 0 0")
	region, e := y.Range(0)
	same(t, "Range", region, api.Range{
		Sites:  []api.Site{{No: 0, Kind: api.PassT}, {No: 1, Kind: api.HutT}, {No: 2, Kind: api.CourseT, Cell: 7}},
		Tracks: []api.Track{{No: 3, A: 2, B: 1, Minutes: 61}, {No: 5, A: 1, B: 2, Minutes: 60, Cell: 7, Steep: 30}},
	}, e, api.OK)
	full := filled(t, append(many(17, func(i int) string { return fmt.Sprint("site ", i, " 1 0") }), many(49, func(i int) string { return fmt.Sprint("track ", i, " 0 1 1 0 0") })...))
	want(t, full, "refused 0", "2")
	if r, _ := full.Range(0); len(r.Sites) != 16 || len(r.Tracks) != 48 {
		t.Error(len(r.Sites), len(r.Tracks))
	}
}

// P10.3: messages are tried by the day on which they were written, then by office, then by number, whenever they come.
func TestOrder(t *testing.T) {
	y := begun(t, "begin 3", "day 20", "write 2 scale 1 2", "write 1 scale 1 1", "day 1", "write 0 scale 1 0", "write 0 scale 2 0")
	first := func(o int) api.Scale {
		l, e := y.Scales(o)
		if e != api.OK || len(l) == 0 {
			t.Fatal(l, e)
		}
		return l[0]
	}
	do(t, y, "send 0 2 0")
	if first(2).Rate != 2 || first(0).Rate != 0 || first(1).Rate != 1 {
		t.Error("not the own ones")
	}
	want(t, y, "refused 2", "1")
	do(t, y, "send 2 0 0")
	if first(0).Rate != 2 {
		t.Error("not by the day")
	}
	do(t, y, "sendall")
	for o := range 3 {
		if first(o).Rate != 1 {
			t.Error("not by the office")
		}
		want(t, y, fmt.Sprint("refused ", o), "2")
	}
	// What is refused can make room again: the pair is refused until its cell has come.
	y = begun(t, "begin 2", "day 20", "write 1 cell 2 1000 0 1 5", "write 1 pair 1 2", "write 0 cell 1 900 0 1 5")
	want(t, y, "refused 1", "1")
	do(t, y, "send 0 1 0")
	want(t, y, "refused 1", "0")
}

// P10.3: of one office, the methods do not tell what another one knows.
func TestOffices(t *testing.T) {
	y := morning(t)
	want(t, y, "refused 1", "0")
	_, e := y.Basin(1)
	same(t, "Basin", 0, 0, e, api.ErrNone)
	if l, e := y.Scales(1); e != api.OK || len(l) > 0 {
		t.Error(l, e)
	}
	tally, e := y.Tally(1)
	same(t, "Tally", tally.Have, []int{0, 0}, e, api.OK)
	for _, o := range []int{-1, 2, 8, 1 << 40} {
		for what, e := range closedErrors(y, o) {
			if e != api.ErrArg {
				t.Error(what, o, e)
			}
		}
	}
}
