package office_test

import (
	"slices"
	"strings"
	"testing"

	"snowline/api"
	"snowline/office"
)

// checks checks whether lines are commands.
func checks(t *testing.T, e api.Errno, lines ...string) {
	t.Helper()
	for _, line := range lines {
		if x := office.Check(line); x != e {
			t.Errorf("%q: error %d, not %d", line, x, e)
		}
	}
}

// P10.1: commands, with the ends of the ranges of their numbers.
func TestCheckCommands(t *testing.T) {
	checks(t, api.OK,
		"begin 1", "begin 8", "day 1", "day 100000", "write 7 withdraw 0", "send 0 7 0", "send 3 3 1234567890", "send 7 0 "+strings.Repeat("9", 1000), "sendall",
		"crash 0 1", "crash 7 1000", "open 0 0", "open 7 "+strings.Repeat("0", 1000), "refused 7", "cell 7 0 0", "cell 0 4095 1048576", "volume 0 4095 1048576", "volume 7 0 0",
		"tell 0 4095 1048576", "tell 7 0 0", "scenes 0", "clash 0", "tracks 0", "promise 0", "agree 0 7", "agree 7 7",
	)
	checks(t, api.ErrCommand,
		"", " ", "x", "begin", "begin 0", "begin 9", "begin 1 1", "begin 01", "begin +1", "begin 1 ", " begin 1", "begin  1", "begin -1", "begin 1\n", "Begin 1", "begin\t1",
		"day", "day 0", "day 100001", "day -1", "day 1.0", "write", "write 0", "write 0 ", "write 8 withdraw 0", "write 0 0", "write withdraw 0", "write 0 20 withdraw 0", "write 0 withdraw 0 ",
		"send 0 1", "send 0 1 ", "send 0 8 0", "send 8 0 0", "send 0 1 a", "send 0 1 -1", "send 0 1 1 1", "send 0 1 "+strings.Repeat("0", 1001), "send 0 1 \u0661",
		"sendall 0", "sendall ", "send", "crash 0 0", "crash 0 1001", "crash 0", "crash 8 1", "open 0", "open 8 0", "open 0 ", "open 0 x", "open 0 "+strings.Repeat("1", 1001),
		"refused", "refused 8", "refused 0 0", "cell 0 4096 0", "cell 0 0 1048577", "cell 0 0", "cell 0 -1 0", "cell 0 0 -0", "volume 0 4096 0", "volume 0 0 1048577", "volume 0 0",
		"tell 0 0", "tell 0 4096 1", "tell 0 0 1048577", "tell 8 0 1", "scenes", "scenes 8", "scenes 0 0", "clash 8", "clash", "tracks 8", "tracks", "promise 8", "promise", "agree 0", "agree 0 8", "agree 8 0", "agree 0 0 0",
		"day 99999999999999999999", "day 18446744073709551617", strings.Repeat(" ", 100000), "begin"+strings.Repeat(" 1", 1000), "#",
	)
}

// writes returns commands that write forms.
func writes(forms ...string) []string {
	var out []string
	for _, form := range forms {
		out = append(out, "write 0 "+form)
	}
	return out
}

// spread returns a word as often as said, with blanks between.
func spread(word string, n int) string { return strings.Join(slices.Repeat([]string{word}, n), " ") }

// P10.1: forms about snow, with the ends of the ranges of their numbers.
func TestCheckFormsOfSnow(t *testing.T) {
	checks(t, api.OK, writes(
		"scale 0 0", "scale 4095 1000", "test 0 0 -1048576 -1048576", "test 4095 1048576 1048576 1048576", "test 1 2 -3 4",
		"course 0 0 0 0 1 0 0 0/0/0/0/0", "course 4095 4095 1048576 4095 1000 1048576 1048576 20000/15000/1048576/5000/1048576", "course 1 2 10 0 10 100 10 "+spread("300/200/1155/40/5", 32),
		"withdraw 0", "withdraw 4095", "laws 0 0 0", "laws 65536 65536 65536", "cell 0 0 0 1 0", "cell 4095 9000 7 4096 4095", "pair 0 4095", "pair 4095 0", "pair 3 3",
		"pillow 0 0 0 0 0 0", "pillow 4095 4095 65536 65536 65536 32", "shown 0 0 0", "shown 4095 1048576 65536",
	)...)
	checks(t, api.ErrCommand, writes(
		"", "x", "scale", "scale 1", "scale 4096 0", "scale -1 0", "scale 0 1001", "scale 0 -1", "scale 0 0 0", "scale 0 00", "scale  0 0",
		"test 4096 0 0 0", "test -1 0 0 0", "test 0 1048577 0 0", "test 0 -1 0 0", "test 0 0 1 0", "test 0 0 -1048577 0", "test 0 0 0 1048577", "test 0 0 -0 0", "test 0 0 0", "test 0 0 0 0 0",
		"course 1 2 10 0 10 100 10", "course 1 2 10 0 10 100 10 ", "course 1 2 10 0 10 100 10 "+spread("300/200/1155/40/5", 33), "course 4096 2 10 0 10 100 10 0/0/0/0/0", "course 1 4096 10 0 10 100 10 0/0/0/0/0",
		"course 1 2 1048577 0 10 100 10 0/0/0/0/0", "course 1 2 10 4096 10 100 10 0/0/0/0/0", "course 1 2 10 0 0 100 10 0/0/0/0/0", "course 1 2 10 0 1001 100 10 0/0/0/0/0", "course 1 2 10 0 10 1048577 10 0/0/0/0/0", "course 1 2 10 0 10 100 1048577 0/0/0/0/0",
		"course 1 2 10 0 10 100 10 300/200/1155/40", "course 1 2 10 0 10 100 10 300/200/1155/40/5/6", "course 1 2 10 0 10 100 10 300/280/1155/40/5", "course 1 2 10 0 10 100 10 300/200/-1/40/5", "course 1 2 10 0 10 100 10 300/200/01155/40/5",
		"course 1 2 10 0 10 100 10 300 200 1155 40 5", "course 1 2 10 0 10 100 10 300/200/1155/40/", "course 1 2 10 0 10 100 10 20001/0/0/0/0", "course 1 2 10 0 10 100 300/200/1155/40/5", "course 1 2 10 0 10 100 10/1 300/200/1155/40/5",
		"withdraw", "withdraw 4096", "withdraw -1", "withdraw 1 2", "withdraw -0", "laws 65537 0 0", "laws 0 65537 0", "laws 0 0 65537", "laws -1 0 0", "laws 0 -1 0", "laws 0 0 -1", "laws 0 0", "laws 0 0 0 0",
		"cell 4096 0 0 1 0", "cell -1 0 0 1 0", "cell 0 9001 0 1 0", "cell 0 -1 0 1 0", "cell 0 0 8 1 0", "cell 0 0 -1 1 0", "cell 0 0 0 0 0", "cell 0 0 0 4097 0", "cell 0 0 0 1 4096", "cell 0 0 0 1 -1", "cell 0 0 0 1", "cell 0 0 0 1 0 0",
		"pair 4096 0", "pair 0 4096", "pair -1 0", "pair 0 -1", "pair 0", "pair 0 1 2",
		"pillow 4096 0 0 0 0 0", "pillow 0 4096 0 0 0 0", "pillow 0 0 65537 0 0 0", "pillow 0 0 0 65537 0 0", "pillow 0 0 0 0 65537 0", "pillow 0 0 0 0 0 33", "pillow 0 0 0 0 0 -1", "pillow 0 0 0 0 0", "pillow 0 0 0 0 0 0 1=1",
		"shown 4096 0 0", "shown 0 1048577 0", "shown 0 0 65537", "shown -1 0 0", "shown 0 -1 0", "shown 0 0 -1", "shown 0 0", "shown 0 0 0 0", "shown 0 0=0",
	)...)
}

// P10.1: forms about weather, water and ways, with the ends of the ranges of their numbers.
func TestCheckFormsOfWater(t *testing.T) {
	checks(t, api.OK, writes(
		"climate 0 0 0 0 -600 -600 0 0", "climate 9000 20 600 1000 600 600 1950 2000", "climate 1000 6 50 10 -100 150 300 310", "weather 0 -600 0", "weather 1048576 600 1000",
		"spring 0 0 -600/0", "spring 4095 1048576 600/1000", "spring 1 0 "+spread("1/1", 64), "spring 1 1048575 1/1 1/1", "spring 1 20 600/0 -600/1000",
		"grant 0 0 0 0 0 0 0", "grant 4095 1048576 4095 4095 1048576 1048576 1099511627776", "pass 0 0 0", "pass 4095 1048576 4095", "hold 0 0", "free 4095 1048576", "end 1 2",
		"pond 0 0", "pond 4095 1099511627776", "site 0 1 0", "site 4095 3 0", "site 1 2 4095", "site 1 2 0", "track 0 1 2 1 0 0", "track 4095 4095 0 1440 4095 60", "track 1 2 1 1 0 1",
	)...)
	checks(t, api.ErrCommand, writes(
		"climate 9001 0 0 0 0 0 0 0", "climate 0 21 0 0 0 0 0 0", "climate 0 0 601 0 0 0 0 0", "climate 0 0 0 1001 0 0 0 0", "climate 0 0 0 0 1 0 0 0", "climate 0 0 0 0 -601 0 0 0", "climate 0 0 0 0 0 601 0 0", "climate 0 0 0 0 0 0 51 0",
		"climate 0 0 0 0 0 0 0 51", "climate 0 0 0 0 0 0 2000 2001", "climate 0 0 0 0 0 0 -1 0", "climate 0 0 0 0 0 0 0", "climate 0 0 0 0 0 0 0 0 0", "climate -1 0 0 0 0 0 0 0", "climate 0 0 0 0 -0 0 0 0",
		"weather 1048577 0 0", "weather -1 0 0", "weather 0 601 0", "weather 0 -601 0", "weather 0 0 1001", "weather 0 0 -1", "weather 0 0", "weather 0 0 0 0", "weather 0 -0 0",
		"spring 1 2", "spring 4096 0 1/1", "spring -1 0 1/1", "spring 1 1048576 1/1 1/1", "spring 1 1048577 1/1", "spring 1 -1 1/1", "spring 1 0 "+spread("1/1", 65), "spring 1 0 1", "spring 1 0 1/1/1", "spring 1 0 601/1", "spring 1 0 1/1001", "spring 1 0 1/1 -601/1", "spring 1 0 1/1 1/-1", "spring 1 0 1/1 ",
		"spring 1 9223372036854775807 1/1 1/1",
		"grant 4096 0 0 0 0 0 0", "grant 0 1048577 0 0 0 0 0", "grant 0 0 4096 0 0 0 0", "grant 0 0 0 4096 0 0 0", "grant 0 0 0 0 1 0 0", "grant 0 0 0 0 0 1048577 0", "grant 0 0 0 0 0 0 1099511627777", "grant 0 0 0 0 0 0", "grant 0 0 0 0 0 0 0 0", "grant 0 0 0 0 0 0 -1",
		"pass 0 0", "pass 4096 0 0", "pass 0 0 4096", "pass 0 1048577 0", "pass 0 0 0 0", "hold 0", "hold 0 0 0", "hold 4096 0", "free 0 1048577", "free 0", "free 0 0 0", "end 0", "end 0 -1", "end 0 0 0",
		"pond 4096 0", "pond -1 0", "pond 0 1099511627777", "pond 0 -1", "pond 0", "pond 0 0 0", "site 4096 1 0", "site -1 1 0", "site 0 0 0", "site 0 4 0", "site 0 1 1", "site 0 3 1", "site 0 2 4096", "site 0 2 -1", "site 0 1", "site 0 1 0 0",
		"track 4096 1 2 1 0 0", "track 0 1 1 1 0 0", "track 0 4096 1 1 0 0", "track 0 1 4096 1 0 0", "track 0 1 2 0 0 0", "track 0 1 2 1441 0 0", "track 0 1 2 1 1 0", "track 0 1 2 1 4096 30", "track 0 1 2 1 0 61", "track 0 1 2 1 0 -1", "track 0 1 2 1 0", "track 0 1 2 1 0 0 0",
	)...)
}

// P10.1: lines of scripts.
func TestLines(t *testing.T) {
	for _, x := range []struct {
		script string
		lines  []string
	}{
		{"", nil}, {"\n\n", nil}, {"a", []string{"a"}}, {"a\n", []string{"a"}}, {"a\n\nb", []string{"a", "b"}}, {"# a\nb\n#", []string{"b"}}, {" # a\n \nb#", []string{" # a", " ", "b#"}}, {"a\r\n", []string{"a\r"}},
		{strings.Repeat("a\n#\n", 400), slices.Repeat([]string{"a"}, 400)}, {strings.Repeat("a", 65536), []string{strings.Repeat("a", 65536)}},
	} {
		if l, e := office.Lines(x.script); e != api.OK || !slices.Equal(l, x.lines) {
			t.Errorf("%q: %q, error %d", x.script, l, e)
		}
	}
	for _, script := range []string{strings.Repeat("a\n", 401), strings.Repeat("\n", 65537), strings.Repeat("#\n", 40000)} {
		if l, e := office.Lines(script); e != api.ErrLimit || len(l) > 0 {
			t.Error(len(script), len(l), e)
		}
		if out, i, e := office.Run(script); e != api.ErrLimit || i != 0 || out != "" {
			t.Error(len(script), out, i, e)
		}
	}
}

// P10.1: scripts, the chapter's examples among them.
func TestRun(t *testing.T) {
	for _, x := range []struct {
		script, out string
		i           int
		e           api.Errno
	}{
		{"", "", 0, api.OK},
		{"day 1", "error 101\n", 0, api.OK},
		{"begin 2\nwrite 0 cell 1 1000 0 10 5\nwrite 1 cell 1 900 0 10 5\nsendall\nrefused 0\ncell 1 1 0", "\n0.0\n1.0\n2\n1\n0 65536\n", 0, api.OK},
		{"begin 1\nwrite 0 laws 0 0 500\nwrite 0 cell 1 1000 0 10 5\nscenes 0\ncell 0 1 0\nvolume 0 5 9\n", "\n0.0\n0.1\n1\n0 500\nerror 4\n", 0, api.OK},
		{"begin 2\nwrite 0 withdraw 3\nsend 0 1 3\nsend 0 1 2\nagree 0 1", "\n0.0\n0\n1\nyes\n", 0, api.OK},
		{"# a model begins\n\nbegin 1\nday 5\nday 100000\n", "\n5\n100005\n", 0, api.OK},
		{"begin 1\n#\n\nday 0\nx", "", 1, api.ErrCommand},
		{"x", "", 0, api.ErrCommand},
		{"begin 1\nday 1\nwrite 0 grant 7 1 1 5 1 9 3\nwrite 0 grant 8 1 1 5 1 9 3\npromise 0\nday 1\n ", "", 6, api.ErrCommand},
		{"begin 1\nday 1\nwrite 0 grant 7 1 1 5 1 9 3\nwrite 0 grant 8 1 1 5 1 9 3\npromise 0\nagree 0 0", "\n1\n0.0\n0.1\n7 0\n8 0\nyes\n", 0, api.OK},
	} {
		if out, i, e := office.Run(x.script); out != x.out || i != x.i || e != x.e {
			t.Errorf("%q: %q, %d, error %d", x.script, out, i, e)
		}
	}
}

// P10.1: a run does what the lines do in a new model, one by one.
func TestRunIsDo(t *testing.T) {
	lines := append([]string{"begin 2", "day 20"}, writes(append(basic(), warm()...)...)...)
	lines = append(lines, "tell 0 5 22", "begin 1", "sendall", "crash 1 2", "write 1 withdraw 4", "refused 1", "open 1 0", "agree 0 1", "tracks 0", "promise 1", "clash 0", "cell 0 2 20", "cell 0 2 19")
	y := office.New()
	var out strings.Builder
	for _, line := range lines {
		s, e := y.Do(line)
		if e != api.OK {
			s = words("error", map[api.Errno]string{api.ErrNotNow: "101", api.ErrDown: "93", api.ErrNone: "4"}[e])
		}
		out.WriteString(s + "\n")
	}
	if s, _, e := office.Run(strings.Join(lines, "\n\n# \n")); e != api.OK || s != out.String() {
		t.Error(s, e)
	}
}
