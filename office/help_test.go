package office_test

import (
	"math/rand"
	"strings"
	"testing"

	"snowline/api"
	"snowline/office"
)

// do does lines that have to return OK, and returns the last output.
func do(t *testing.T, y *office.Model, lines ...string) string {
	t.Helper()
	out := ""
	for _, line := range lines {
		s, e := y.Do(line)
		if e != api.OK {
			t.Fatalf("%s: error %d", line, e)
		}
		out = s
	}
	return out
}

// want does a line that has to return OK and an output.
func want(t *testing.T, y *office.Model, line, out string) {
	t.Helper()
	if s, e := y.Do(line); e != api.OK || s != out {
		t.Errorf("%s: %q, error %d, not %q", line, s, e, out)
	}
}

// fails does a line that has to return an error.
func fails(t *testing.T, y *office.Model, line string, e api.Errno) {
	t.Helper()
	if s, x := y.Do(line); x != e || s != "" {
		t.Errorf("%s: %q, error %d, not %d", line, s, x, e)
	}
}

// begun returns a model in which lines were done.
func begun(t *testing.T, lines ...string) *office.Model {
	t.Helper()
	y := office.New()
	do(t, y, lines...)
	return y
}

// takes writes forms by office 0 of which none may be refused.
func takes(t *testing.T, y *office.Model, forms ...string) {
	t.Helper()
	for _, form := range forms {
		before := do(t, y, "refused 0")
		do(t, y, "write 0 "+form)
		if do(t, y, "refused 0") != before {
			t.Errorf("%s: refused", form)
		}
	}
}

// refuses writes forms by office 0 all of which have to be refused.
func refuses(t *testing.T, y *office.Model, forms ...string) {
	t.Helper()
	for _, form := range forms {
		before := do(t, y, "refused 0")
		do(t, y, "write 0 "+form)
		if do(t, y, "refused 0") == before {
			t.Errorf("%s: not refused", form)
		}
	}
}

// basic returns the forms of two cells of the valley 5, the second one at most 30 above the first one, a scale that is right, and a sheet of the first cell on the day 20: 100.
func basic() []string {
	return []string{
		"laws 0 30 500", "cell 1 1000 0 10 5", "cell 2 1200 0 10 5", "pair 1 2",
		"scale 1 0", "test 1 20 0 0", "course 1 1 20 1 1 100 20 100/100/200/0/0",
	}
}

// morning returns a model of two offices on the day 20, whose office 0 has written the basic forms.
func morning(t *testing.T) *office.Model {
	t.Helper()
	y := begun(t, "begin 2", "day 20")
	takes(t, y, basic()...)
	return y
}

// warm are the forms of a climate in which 30 millimetres melt on a day with 10 degrees, at any height, and of a spring of two such days from the day 20 on.
func warm() []string {
	return []string{"climate 1000 0 50 10 -100 150 300 300", "spring 1 20 100/0 100/0"}
}

// between returns a number from least to greatest.
func between(r *rand.Rand, least, greatest int) int { return least + r.Intn(greatest-least+1) }

// pick returns an element of l.
func pick[T any](r *rand.Rand, l ...T) T { return l[r.Intn(len(l))] }

// words returns values as words.
func words(l ...string) string { return strings.Join(l, " ") }
