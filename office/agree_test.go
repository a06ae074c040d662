package office_test

import (
	"fmt"
	"math/rand"
	"strings"
	"testing"

	"snowline/api"
)

// P10.4: what two offices that know nothing of each other make of their books.
func TestAgree(t *testing.T) {
	base := append(append(basic(), warm()...), "weather 19 60 0", "pillow 3 2 5 20 10 1", "shown 3 20 110", "grant 7 10 1 5 20 22 5", "pond 5 9", "site 1 1 0", "site 2 1 0", "track 1 1 2 5 0 0", "withdraw 9")
	for _, x := range []struct {
		out  string
		more []string
	}{
		{"yes", nil},
		{"yes", []string{"scale 1 5", "laws 1 2 3", "withdraw 9", "cell 1 1 1 1 1"}},
		{"no", []string{"scale 2 0"}}, {"no", []string{"test 1 19 0 0"}}, {"no", []string{"course 2 1 20 1 1 100 20 100/100/200/0/0"}}, {"no", []string{"course 1 1 20 1 1 100 20 100/100/200/0/0"}}, {"no", []string{"withdraw 8"}},
		{"no", []string{"cell 3 1000 0 10 5"}}, {"no", []string{"weather 18 60 0"}}, {"no", []string{"spring 3 1 0/0"}}, {"no", []string{"spring 3 19 10/0"}}, {"no", []string{"pillow 4 1 1 1 1 1"}}, {"no", []string{"shown 3 21 5"}},
		{"no", []string{"hold 7 20"}}, {"no", []string{"pond 6 9"}}, {"no", []string{"site 3 1 0"}}, {"no", []string{"track 2 1 2 5 0 0"}},
	} {
		y := begun(t, "begin 3", "day 20")
		for o := range 2 {
			for _, form := range base {
				do(t, y, fmt.Sprint("write ", o, " ", form))
			}
		}
		for _, form := range x.more {
			do(t, y, "write 1 "+form)
		}
		want(t, y, "agree 0 1", x.out)
		want(t, y, "agree 1 0", x.out)
		want(t, y, "agree 1 1", "yes")
		want(t, y, "agree 0 2", "no")
		if is, e := y.Agree(0, 1); e != api.OK || is != (x.out == "yes") {
			t.Error(is, e)
		}
	}
}

// P10.4: each part by itself, in two versions: agreeing is about all of it, and about the order of sheets and pairs, but not about that of numbers.
func TestAgreeParts(t *testing.T) {
	sheet := func(s string) string {
		return "course " + strings.Replace("1 2 3 4 5 6 7 8/2/3/4/5", s[:1], s[1:], 1)
	}
	cells := []string{"cell 1 1000 0 1 5", "cell 2 1000 0 1 5", "cell 3 1000 0 1 5"}
	climate := []string{"climate 1000 0 50 10 -100 150 300 300"}
	join := func(l []string, more ...string) []string { return append(append([]string{}, l...), more...) }
	for _, x := range []struct {
		is   bool
		a, b []string
	}{
		{true, []string{"scale 1 0", "scale 2 0"}, []string{"scale 2 0", "scale 1 0"}}, {false, []string{"scale 1 0"}, []string{"scale 1 1"}}, {false, []string{"scale 1 0"}, []string{"scale 2 0"}},
		{true, []string{"withdraw 1", "withdraw 2"}, []string{"withdraw 2", "withdraw 1"}}, {false, []string{"withdraw 1"}, []string{"withdraw 2"}},
		{false, []string{sheet("11"), sheet("12")}, []string{sheet("12"), sheet("11")}}, {false, []string{sheet("11")}, []string{sheet("19")}}, {false, []string{sheet("11")}, []string{sheet("29")}}, {false, []string{sheet("11")}, []string{sheet("39")}},
		{false, []string{sheet("11")}, []string{sheet("49")}}, {false, []string{sheet("11")}, []string{sheet("59")}}, {false, []string{sheet("11")}, []string{sheet("69")}}, {false, []string{sheet("11")}, []string{sheet("79")}}, {false, []string{sheet("11")}, []string{sheet("89")}},
		{true, cells, []string{cells[2], cells[0], cells[1]}}, {false, cells[:1], []string{"cell 1 1000 0 2 5"}}, {false, cells[:1], []string{"cell 1 1000 0 1 6"}},
		{true, nil, []string{"laws 0 65536 65536"}}, {false, nil, []string{"laws 1 65536 65536"}}, {false, nil, []string{"laws 0 65535 65536"}}, {false, nil, []string{"laws 0 65536 65535"}},
		{true, join(cells, "pair 1 2", "pair 2 3"), join([]string{cells[1], cells[0], "pair 1 2", cells[2]}, "pair 2 3")}, {false, join(cells, "pair 1 2", "pair 2 3"), join(cells, "pair 2 3", "pair 1 2")}, {false, join(cells, "pair 1 2"), join(cells, "pair 2 1")},
		{false, nil, []string{"climate 0 0 0 0 0 0 0 0"}}, {false, climate, []string{"climate 1000 0 50 10 -100 150 300 301"}},
		{true, join(climate, "weather 1 0 0", "weather 2 0 0"), join(climate, "weather 2 0 0", "weather 1 0 0")}, {false, join(climate, "weather 1 0 0"), join(climate, "weather 1 0 1")},
		{true, join(climate, "spring 1 5 0/0", "spring 2 5 0/0"), join(climate, "spring 2 5 0/0", "spring 1 5 0/0")}, {false, join(climate, "spring 1 5 0/0"), join(climate, "spring 1 6 0/0")}, {false, join(climate, "spring 1 5 0/0"), join(climate, "spring 2 5 0/0")},
		{false, join(climate, "weather 5 9 9"), join(climate, "weather 5 9 9", "spring 1 5 0/0")},
		{true, []string{"pillow 1 1 1 1 1 1", "pillow 2 1 1 1 1 1"}, []string{"pillow 2 1 1 1 1 1", "pillow 1 1 1 1 1 1"}},
		{false, []string{"pillow 1 1 1 1 1 1"}, []string{"pillow 2 1 1 1 1 1"}}, {false, []string{"pillow 1 1 1 1 1 1"}, []string{"pillow 1 2 1 1 1 1"}}, {false, []string{"pillow 1 1 1 1 1 1"}, []string{"pillow 1 1 2 1 1 1"}},
		{false, []string{"pillow 1 1 1 1 1 1"}, []string{"pillow 1 1 1 2 1 1"}}, {false, []string{"pillow 1 1 1 1 1 1"}, []string{"pillow 1 1 1 1 2 1"}}, {false, []string{"pillow 1 1 1 1 1 1"}, []string{"pillow 1 1 1 1 1 2"}},
		{false, []string{"grant 1 1 1 1 1 1 1", "grant 2 1 1 1 1 1 1"}, []string{"grant 2 1 1 1 1 1 1", "grant 1 1 1 1 1 1 1"}},
		{true, []string{"pond 1 1", "pond 2 1"}, []string{"pond 2 1", "pond 1 1"}}, {false, []string{"pond 1 1"}, []string{"pond 1 2"}},
		{true, []string{"site 1 1 0", "site 2 3 0"}, []string{"site 2 3 0", "site 1 1 0"}}, {false, []string{"site 1 1 0"}, []string{"site 1 3 0"}},
	} {
		y := begun(t, "begin 2", "day 20")
		for _, form := range x.a {
			do(t, y, "write 0 "+form)
		}
		for _, form := range x.b {
			do(t, y, "write 1 "+form)
		}
		if is, e := y.Agree(0, 1); e != api.OK || is != x.is {
			t.Error(x, is, e)
		}
	}
	// When something was written matters for sheets.
	y := begun(t, "begin 2", "day 20", "write 0 "+sheet("11"), "day 1", "write 1 "+sheet("11"))
	want(t, y, "agree 0 1", "no")
}

// agrees checks that two offices with the same messages agree, and tell the same.
func agrees(p *player, a, b int) {
	p.t.Helper()
	want(p.t, p.y, fmt.Sprintf("agree %d %d", a, b), "yes")
	if x, y := told(p.y, a), told(p.y, b); x != y {
		p.t.Errorf("not the same: %s and %s", x, y)
	}
}

// P10.5, P0.6: after all that noise and losses of power, offices with the same messages tell the same.
func TestAgreement(t *testing.T) {
	for seed := range 12 {
		r := rand.New(rand.NewSource(int64(seed)))
		p := newPlayer(t, r, 3)
		p.start()
		for i := range 60 {
			p.step()
			if a, b := r.Intn(3), r.Intn(3); i%4 == 0 && p.isOpen[a] && p.isOpen[b] {
				out := map[bool]string{true: "yes", false: "no"}[p.agree(a, b)]
				want(t, p.y, fmt.Sprintf("agree %d %d", a, b), out)
			}
		}
		for o := range 3 {
			// Two offices agree as well if the third one is down.
			if o != seed%4 {
				p.reopen(o, someNoise(r))
			}
		}
		do(t, p.y, "sendall")
		want(t, p.y, "sendall", "0")
		for a := range 3 {
			for b := range 3 {
				if a < b && p.isOpen[a] && p.isOpen[b] {
					agrees(p, a, b)
				}
			}
		}
	}
}

// P10.5, P0.6: offices that hear of the same messages in different orders, in several parts, tell the same.
func TestAnyOrder(t *testing.T) {
	for seed := range 12 {
		r := rand.New(rand.NewSource(int64(100 + seed)))
		p := newPlayer(t, r, 4)
		p.start()
		for range 40 {
			p.write(r.Intn(2), someForm(r, p.day))
			if r.Intn(8) == 0 {
				p.wait(1)
			}
			// The offices 2 and 3 write nothing, and hear now of one of the others and now of the other one.
			if r.Intn(3) == 0 {
				o := between(r, 2, 3)
				do(t, p.y, fmt.Sprint("crash ", o, " ", between(r, 1, 40)))
				p.send(r.Intn(2), o, someNoise(r))
				p.reopen(o, someNoise(r))
			}
		}
		for _, o := range r.Perm(2) {
			p.send(o, 2, "0")
		}
		for _, o := range r.Perm(2) {
			p.send(o, 3, "0")
		}
		agrees(p, 2, 3)
	}
}
