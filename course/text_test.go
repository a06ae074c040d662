package course_test

import (
	"math/rand"
	"reflect"
	"strings"
	"testing"

	"snowline/api"
	"snowline/course"
)

// P1.5
func TestTestTexts(t *testing.T) {
	for i, x := range []struct {
		t    api.Test
		text string
	}{
		{api.Test{Day: 10, Known: 12, Lo: -3, Hi: 4}, "test 10 12 -3 4"},
		{api.Test{}, "test 0 0 0 0"},
		{api.Test{Day: api.MaxDay, Known: api.MaxDay, Lo: -api.MaxGram, Hi: api.MaxGram}, "test 1048576 1048576 -1048576 1048576"},
	} {
		if s, e := course.PrintTest(x.t); e != api.OK || s != x.text {
			t.Error(i, s, e)
		}
		if y, e := course.ParseTest(x.text); e != api.OK || y != x.t {
			t.Error(i, y, e)
		}
	}
	if s, e := course.PrintTest(api.Test{Lo: 5, Hi: 4}); e != api.ErrTest || s != "" {
		t.Error(s, e)
	}
}

// P1.5
func TestBadTestTexts(t *testing.T) {
	for i, s := range []string{
		"", " ", "test", "test ", "test 1 1 0", "test 1 1 0 0 0", "test 1 1 0 0 ", " test 1 1 0 0", "test 1 1 0 0\n", "test  1 1 0 0", "test 1  1 0 0",
		"test 1 1 -0 0", "test 1 1 0 00", "test 01 1 0 0", "test +1 1 0 0", "test 1 1 0 +0", "test 1 1 - 0", "test 1 1 0x0 0", "test 1 1 0 1_0", "test 1 1 0 1.0",
		"test 1 1 2 1", "test -1 1 0 0", "test 1 1048577 0 0", "test 1 1 -1048577 0", "test 1 1 0 99999999999999999999", "Test 1 1 0 0", "test\t1 1 0 0",
		"sheet 1 2 10 11 0 10 100 10 0/0/0/0/0", "test 1 1 0 0\x00", "test 1 1 ٠ 0",
	} {
		if y, e := course.ParseTest(s); e != api.ErrParse || y != (api.Test{}) {
			t.Error(i, y, e)
		}
	}
}

// fullSheet is a sheet with as many stakes as there can be.
func fullSheet() api.Sheet {
	s := sheetOf(make([]api.Stake, api.MaxStakes)...)
	s.Stakes[api.MaxStakes-1] = plain()
	return s
}

// P1.5
func TestSheetTexts(t *testing.T) {
	head := "sheet 1 2 10 11 0 10 100 10"
	for i, x := range []struct {
		s    api.Sheet
		text string
	}{
		{sheetOf(plain()), head + " 300/200/1155/40/5"},
		{sheetOf(plain(), api.Stake{}), head + " 300/200/1155/40/5 0/0/0/0/0"},
		{fullSheet(), head + strings.Repeat(" 0/0/0/0/0", 31) + " 300/200/1155/40/5"},
		{api.Sheet{No: 1, Cell: 2, Day: 3, Known: 4, Scale: 5, Mouth: 6, Empty: 7, EmptyDay: 8, Stakes: []api.Stake{{Depth: 9, Core: 4, Full: 11, Lost: 5, Soil: 13}}}, "sheet 1 2 3 4 5 6 7 8 9/4/11/5/13"},
	} {
		if s, e := course.PrintSheet(x.s); e != api.OK || s != x.text {
			t.Error(i, s, e)
		}
		if y, e := course.ParseSheet(x.text); e != api.OK || !reflect.DeepEqual(y, x.s) {
			t.Error(i, y, e)
		}
	}
	if s, e := course.PrintSheet(api.Sheet{}); e != api.ErrSheet || s != "" {
		t.Error(s, e)
	}
}

// P1.5
func TestBadSheetTexts(t *testing.T) {
	head := "sheet 1 2 10 11 0 10 100 10"
	stake := " 300/200/1155/40/5"
	for i, s := range []string{
		"", "sheet", head, head + " ", head + stake + " ", " " + head + stake, head + " " + stake, head + stake + "\n", head + stake + "/",
		head + " 300/200/1155/40", head + " 300/200/1155/40/5/6", head + " /300/200/1155/40/5", head + " 300 200 1155 40 5", head + " 300//1155/40/5",
		head + " 300/200/1155/40/05", head + " 300/200/1155/-0/5", head + " 300/200/+1155/40/5", head + " 300/200/1155/101/5", head + " 300/200/1155/40/-5",
		"sheet 1 2 10 11 0 0 100 10" + stake, "sheet 01 2 10 11 0 10 100 10" + stake, "sheet 1 2 10 11 0 10 100" + stake, "sheet 1 2 10 11 0 10 100 10 10" + stake,
		"sheet 4096 2 10 11 0 10 100 10" + stake, "sheets 1 2 10 11 0 10 100 10" + stake, "1 1 2 10 11 0 10 100 10" + stake,
		head + strings.Repeat(stake, 33), head + strings.Repeat(stake, 32) + " ", head + strings.Repeat(stake, 9999), strings.Repeat(" ", 1<<16), "test 1 1 0 0",
	} {
		if y, e := course.ParseSheet(s); e != api.ErrParse || !reflect.DeepEqual(y, api.Sheet{}) {
			t.Error(i, y, e)
		}
	}
}

// P1.5: whatever is parsed is printed as it was.
func TestTextsAreInverse(t *testing.T) {
	r := rand.New(rand.NewSource(4))
	const bytes = " -/0123456789testhe"
	parsed := 0
	for range 20000 {
		s := []byte([]string{"test 10 12 -3 4", "sheet 1 2 10 11 0 10 100 10 300/200/1155/40/5 5/1/0/0/0"}[r.Intn(2)])
		for range 1 + r.Intn(2) {
			at, with := r.Intn(len(s)), bytes[r.Intn(len(bytes))]
			switch r.Intn(3) {
			case 0:
				s[at] = with
			case 1:
				s = append(s[:at], s[at+1:]...)
			default:
				s = append(s[:at], append([]byte{with}, s[at:]...)...)
			}
		}
		if x, e := course.ParseTest(string(s)); e == api.OK {
			parsed++
			if y, e := course.PrintTest(x); e != api.OK || y != string(s) {
				t.Fatal(string(s), y, e)
			}
		}
		if x, e := course.ParseSheet(string(s)); e == api.OK {
			parsed++
			if y, e := course.PrintSheet(x); e != api.OK || y != string(s) {
				t.Fatal(string(s), y, e)
			}
		}
	}
	if parsed < 1000 {
		t.Error(parsed)
	}
}
