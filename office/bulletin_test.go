package office_test

import (
	"fmt"
	"strings"
	"testing"

	"snowline/api"
	"snowline/office"
)

// world returns the forms on which the bulletins of these tests rest.
func world() []string {
	return append(append(basic(), warm()...), "weather 19 60 0", "pillow 3 2 5 20 10 1", "shown 3 20 110", "spring 2 20 90/0 60/0")
}

// evening returns a model on the day 20 whose office 1 has written the world, and told a bulletin of the valley 5 by the day 22. Messages of the office 0 come ahead of its own.
func evening(t *testing.T) *office.Model {
	t.Helper()
	y := begun(t, "begin 3", "day 20")
	for _, form := range world() {
		do(t, y, "write 1 "+form)
	}
	want(t, y, "refused 1", "0")
	want(t, y, "tell 1 5 22", "900 1200")
	return y
}

// P10.4: what bulletins contain, and which one is ahead of which.
func TestTold(t *testing.T) {
	y := evening(t)
	for _, line := range []string{"tell 1 5 22", "tell 1 5 21", "tell 1 5 20"} {
		do(t, y, line)
	}
	do(t, y, "write 1 course 9 2 20 1 1 100 20 130/130/220/0/0", "write 1 withdraw 1", "tell 1 5 22", "write 1 withdraw 9", "tell 1 5 21", "tell 1 5 22", "tell 1 5 22")
	span := func(s string) api.Span {
		words := strings.Fields(s)
		var x api.Span
		fmt.Sscan(words[0], &x.Lo)
		fmt.Sscan(words[1], &x.Hi)
		return x
	}
	first, day, short := span("900 1200"), span(do(t, y, "volume 1 5 20")), span("540 600")
	should := []api.Bulletin{
		{No: 0, Day: 20, Valley: 5, Date: 22, Lo: first.Lo, Hi: first.Hi, Rests: []int{1}},
		{No: 1, Day: 20, Valley: 5, Date: 22, Lo: first.Lo, Hi: first.Hi, Rests: []int{1}},
		{No: 2, Day: 20, Valley: 5, Date: 21, Lo: short.Lo, Hi: short.Hi, Rests: []int{1}},
		{No: 3, Day: 20, Valley: 5, Date: 20, Lo: day.Lo, Hi: day.Hi, Rests: []int{1}},
		{No: 4, Day: 20, Valley: 5, Date: 22, Lo: first.Lo, Hi: first.Hi, Rests: []int{9}, Named: []int{1}},
		{No: 5, Day: 20, Valley: 5, Date: 21, Named: []int{1}},
		{No: 6, Day: 20, Valley: 5, Date: 22, Named: []int{9}},
		{No: 7, Day: 20, Valley: 5, Date: 22},
	}
	l, e := y.Told(1)
	for i := range l {
		if i > 4 {
			// What comes if little is known is told by other tests.
			l[i].Lo, l[i].Hi = 0, 0
		}
	}
	same(t, "Told", l, should, e, api.OK)
	l, e = y.Told(0)
	same(t, "Told", l, []api.Bulletin{}, e, api.OK)
	// On the next day none is ahead; the bulletins stay, also if the power goes off.
	do(t, y, "day 1", "write 1 spring 5 21 100/0 100/0", "write 1 cell 4 1000 0 1 5")
	if s := do(t, y, "tell 1 5 22"); strings.Contains(s, "anew") || len(strings.Fields(s)) != 2 {
		t.Error(s)
	}
	do(t, y, "crash 1 1")
	fails(t, y, "write 1 withdraw 2", api.ErrDown)
	fails(t, y, "tell 1 5 22", api.ErrNotNow)
	do(t, y, "open 1 0", "tell 1 5 22")
	if l, e = y.Told(1); e != api.OK || len(l) != 10 || l[9].No != 9 || l[9].Day != 21 || l[9].Anew || l[0].No != 0 {
		t.Error(l, e)
	}
	// A bulletin that is not told for an error is not there.
	fails(t, y, "tell 1 5 40", api.ErrArg)
	if l, _ = y.Told(1); len(l) != 10 {
		t.Error(l)
	}
}

// retold returns what the second bulletin of an evening says beside the volume, if the office 0 has written forms before.
func retold(t *testing.T, forms ...string) string {
	t.Helper()
	y := evening(t)
	for _, form := range forms {
		do(t, y, "write 0 "+form)
	}
	do(t, y, "send 0 1 0")
	return says(t, y, "tell 1 5 22")
}

// says returns what a bulletin says beside the volume.
func says(t *testing.T, y *office.Model, line string) string {
	t.Helper()
	out := strings.SplitN(do(t, y, line), " ", 3)
	if len(out) == 2 {
		return ""
	}
	return out[2]
}

// P10.4: why a bulletin is told anew, or names sheets.
func TestAnewAndNamed(t *testing.T) {
	climate := "climate 1000 0 50 10 -100 150 300 300"
	for _, x := range []struct {
		why, out string
		forms    []string
	}{
		{"nothing", "", nil},
		{"what means the same", "", []string{"laws 0 30 500", "cell 2 1200 0 10 5", climate, "scale 1 0", "test 1 20 0 0", "weather 19 60 0", "pillow 3 2 5 20 10 1", "spring 1 20 100/0 100/0"}},
		{"the same sheet", "", []string{"course 1 1 20 1 1 100 20 100/100/200/0/0"}},
		{"the same entry of a log", "", []string{"laws 0 30 500", "cell 2 1200 0 10 5", "pillow 3 2 5 20 10 1", "shown 3 20 110"}},
		{"what counts for nothing", "", []string{"withdraw 2", "pond 5 7", "site 1 1 0", "grant 7 1 1 5 20 30 9", "course 3 1 20 9 1 100 20 100/100/200/0/0", "scale 2 3"}},
		{"more tests", "", []string{"scale 1 0", "test 1 19 -1 1"}},
		{"more weather", "", []string{climate, "weather 18 60 0"}},
		{"a further pillow", "", []string{"pillow 4 2 5 20 10 1", "shown 4 20 111"}},
		{"a later entry of a log", "", []string{"pillow 3 2 5 20 10 1", "withdraw 7"}},
		{"other laws", "anew", []string{"laws 0 31 500"}},
		{"a further cell", "anew", []string{"cell 3 1000 0 1 6"}},
		{"another cell", "anew", []string{"cell 2 1200 0 11 5"}},
		{"a cell in another valley", "anew", []string{"cell 2 1200 0 10 6"}},
		{"another climate", "anew", []string{"climate 1000 0 50 10 -100 150 300 301"}},
		{"a scale with another rate", "anew", []string{"scale 1 1"}},
		{"a test instead of another one", "anew", []string{"scale 1 0", "test 1 20 1 1"}},
		{"no room for a scale", "anew 1", many(8, func(i int) string { return fmt.Sprint("scale ", 2+i, " 0") })},
		{"other weather", "anew", []string{climate, "weather 19 61 0"}},
		{"another pillow", "anew", []string{"pillow 3 2 5 20 11 1"}},
		{"a log that was another one", "anew", []string{"pillow 3 2 5 20 10 1", "shown 3 19 100"}},
		{"another spring", "anew", []string{climate, "spring 9 20 80/0 80/0"}},
		{"another spring with the same number", "anew", []string{climate, "spring 1 20 100/0 110/0"}},
		{"a spring of another day", "", []string{climate, "spring 9 21 80/0 80/0"}},
		{"a spring that is dropped", "", []string{climate, "weather 20 90 0"}},
		{"a sheet that is withdrawn", "1", []string{"withdraw 1"}},
		{"a sheet with another number", "", []string{"course 0 1 20 1 1 100 20 100/100/200/0/0"}},
	} {
		if out := retold(t, x.forms...); out != x.out {
			t.Errorf("%s: %q, not %q", x.why, out, x.out)
		}
	}
}

// P10.4: sheets that were corrected are named, but not one that was written again as it was.
func TestNamedSheets(t *testing.T) {
	y := evening(t)
	do(t, y, "write 1 course 0 2 19 1 1 100 20 130/130/230/0/0", "write 1 course 7 2 19 1 1 100 20 130/130/230/0/0", "tell 1 5 22")
	do(t, y, "write 1 course 7 2 19 1 1 100 20 130/130/230/0/0")
	if out := says(t, y, "tell 1 5 22"); out != "" {
		t.Error(out)
	}
	do(t, y, "write 1 course 7 2 19 1 1 100 20 140/130/231/1/0", "write 1 withdraw 0", "write 1 course 8 2 19 1 1 100 20 131/131/231/0/0")
	if out := says(t, y, "tell 1 5 22"); out != "0 7" {
		t.Error(out)
	}
	if out := says(t, y, "tell 1 5 22"); out != "" {
		t.Error(out)
	}
	// What is ahead is the last one with the same valley and date.
	if out := says(t, y, "tell 1 5 21"); out != "" {
		t.Error(out)
	}
	do(t, y, "write 1 withdraw 8", "write 1 cell 5 1000 0 1 6")
	if out := says(t, y, "tell 1 6 22"); out != "" {
		t.Error(out)
	}
	if out := says(t, y, "tell 1 5 21"); out != "anew 8" {
		t.Error(out)
	}
	// A sheet that counts for no cell any more is another one.
	do(t, y, "write 1 course 7 9 19 1 1 100 20 130/130/231/0/0")
	if out := says(t, y, "tell 1 5 21"); out != "7" {
		t.Error(out)
	}
	if out := says(t, y, "tell 1 5 22"); out != "anew 7 8" {
		t.Error(out)
	}
	// A valley of other cells is told anew, but not one that has the same ones.
	do(t, y, "tell 1 6 22", "write 0 cell 5 1000 0 1 7", "send 0 1 0")
	if out := says(t, y, "tell 1 5 22"); out != "" {
		t.Error(out)
	}
	fails(t, y, "tell 1 6 22", api.ErrNone)
}

// P10.4: pillows whose logs are longer, from their beginnings on.
func TestLongerLogs(t *testing.T) {
	y := evening(t)
	do(t, y, "write 1 pillow 5 1 9 20 10 1", "write 1 shown 5 18 100", "write 1 shown 5 19 101", "tell 1 5 22")
	do(t, y, "write 1 shown 5 20 102", "write 1 shown 5 21 300")
	if out := says(t, y, "tell 1 5 22"); out != "" {
		t.Error(out)
	}
	// Entries of days to come are not looked at.
	do(t, y, "write 0 pillow 5 1 9 20 10 1", "write 0 shown 5 18 100", "write 0 shown 5 19 101", "write 0 shown 5 20 102", "write 0 shown 5 22 300", "send 0 1 0")
	if out := says(t, y, "tell 1 5 22"); out != "" {
		t.Error(out)
	}
	if l, e := y.Pillows(1); e != api.OK || len(l) != 2 || l[1].Log[3].Day != 22 {
		t.Error(l, e)
	}
}
