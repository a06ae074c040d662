package share_test

import (
	"math"
	"strings"
	"testing"

	"snowline/api"
	"snowline/share"
)

// P8.7
func TestTexts(t *testing.T) {
	for text, x := range map[string]api.Event{
		"grant 0 10 10 7 1 1 10 20 5": grant(0, 10, 10, 7, 5),
		"pass 1 30 20 7 2":            pass(1, 30, 20, 7, 2),
		"hold 2 40 35 7":              event(api.HoldE, 2, 40, 35, 7),
		"free 0 0 0 0":                event(api.FreeE, 0, 0, 0, 0),
		"end 3 4 5 6":                 event(api.EndE, 3, 4, 5, 6),
		"pass 0 0 0 0 0":              pass(0, 0, 0, 0, 0),
		"grant 0 0 0 0 0 0 0 0 0":     {Kind: api.GrantE},
		"grant 1 2 3 4 5 6 7 8 9":     {No: 1, Known: 2, Day: 3, Kind: api.GrantE, Right: 4, Holder: 5, Valley: 6, From: 7, To: 8, Claim: 9},
		"grant 4095 1048576 1048576 4095 4095 4095 1048576 1048576 1099511627776": {
			No: 4095, Known: 1048576, Day: 1048576, Kind: api.GrantE, Right: 4095, Holder: 4095, Valley: 4095, From: 1048576, To: 1048576, Claim: 1099511627776,
		},
	} {
		if s, e := share.Print(x); s != text || e != api.OK {
			t.Error(x, s, e)
		}
		if y, e := share.Parse(text); y != x || e != api.OK {
			t.Error(text, y, e)
		}
	}
}

// P8.7
func TestBadTexts(t *testing.T) {
	for _, s := range []string{
		"", " ", "hold", "hold ", "hold 2", "hold 2 40 35", "hold 2 40 35 7 ", "hold 2 40 35 7 0", "hold 2 40 35 7 1", " hold 2 40 35 7", "hold  2 40 35 7", "hold 2 40 35 7\n", "Hold 2 40 35 7", "holds 2 40 35 7", "give 2 40 35 7", "2 40 35 7",
		"hold\t2 40 35 7", "hold 02 40 35 7", "hold 2 040 35 7", "hold +2 40 35 7", "hold -0 40 35 7", "hold -2 40 35 7", "hold 4096 40 35 7", "hold 2 1048577 35 7", "hold 2 40 1048577 7", "hold 2 40 35 4096", "hold 2 40 35 x", "hold 2 40 35 7:",
		"hold 2 40 35 7/", "hold 2 40 35 1e1", "hold 18446744073709551618 40 35 7", "hold 2 40  7", "hold ٣ 40 35 7", "pass 1 30 20 7", "pass 1 30 20 7 2 0", "pass 1 30 20 7 2 0 0 0 0", "pass 1 30 20 7 4096", "pass 1 30 20 7 -1", "pass 1 30 20 7 02",
		"grant 0 10 10 7 1 1 10 20", "grant 0 10 10 7 1 1 10 20 5 0", "grant 0 10 10 7 1 1 10 20 5 ", "grant 0 10 10 7 1 1 20 10 5", "grant 0 10 10 7 1 1 10 20 -1", "grant 0 10 10 7 1 1 10 20 1099511627777", "grant 0 10 10 7 1 4096 10 20 5",
		"grant 0 10 10 7 1 1 10 1048577 5", "grant 0 10 10 7 1 1 10 20 05", "grant 0 10 10 7", "free 0 0 0", "free 0 0 0 0 0", "end 0 0 0 0 0", "end 0 0 0", " 0 0 0 0", "0 0 0 0 0", "grant pass 0 0 0 0 0",
		"hold 2 40 35 7" + strings.Repeat(" 1", 100000), "hold " + strings.Repeat("9", 100000) + " 40 35 7", strings.Repeat("hold ", 100000),
	} {
		if x, e := share.Parse(s); x != (api.Event{}) || e != api.ErrParse {
			t.Errorf("%.60q: %v %d", s, x, e)
		}
	}
	for i, x := range []api.Event{{}, {Kind: 6}, {Kind: -1}, {Kind: api.HoldE, Holder: 1}, {Kind: api.PassE, Claim: 1}, {Kind: api.GrantE, From: 2, To: 1}, {Kind: api.GrantE, Claim: math.MaxInt}, {Kind: api.EndE, No: -1}, {Kind: api.FreeE, Day: 1048577}} {
		if s, e := share.Print(x); s != "" || e != api.ErrEvent {
			t.Error(i, s, e)
		}
	}
}

// P8.7: each undoes the other, for all well-formed events, and no text beside those of events is read.
func TestTextsAreInverse(t *testing.T) {
	valid := 0
	numbers := []string{"-1", "0", "7", "4095", "4096", "1048576", "1048577", "1099511627776", "1099511627777", "07", ""}
	for _, word := range []string{"grant", "pass", "hold", "free", "end", "", "x"} {
		for count := range 11 {
			for i := range count {
				for _, number := range numbers {
					words := []string{word}
					for j := range count {
						if words = append(words, "7"); i == j {
							words[j+1] = number
						}
					}
					text := strings.Join(words, " ")
					x, e := share.Parse(text)
					if e != api.OK {
						if e != api.ErrParse || x != (api.Event{}) {
							t.Fatal(text, x, e)
						}
						continue
					}
					valid++
					if s, e := share.Print(x); s != text || e != api.OK {
						t.Fatal(text, x, s, e)
					}
				}
			}
		}
	}
	// Numbers have 3 values each, days 5; From has those up to 7, To those from 7 on, and a claim all that are not below 0.
	hold := 3 + 5 + 5 + 3
	if want := 3*hold + (hold + 3) + (hold + 3 + 3 + 2 + 4 + 7); valid != want {
		t.Error(valid, want)
	}
}
