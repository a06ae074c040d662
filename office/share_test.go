package office_test

import (
	"fmt"
	"strings"
	"testing"

	"snowline/api"
)

// P10.4: rights as they stand on the present day, as known then.
func TestShareRights(t *testing.T) {
	y := begun(t, "begin 1", "day 20")
	takes(t, y, "grant 7 10 1 5 11 12 13", "grant 3 20 2 6 14 15 16", "grant 4 21 3 6 14 15 16", "grant 8 10 1 5 11 12 13", "hold 8 20", "grant 9 10 1 5 11 12 13", "end 9 21", "pass 7 20 4")
	s, e := y.Share(0)
	same(t, "Share", s, api.Share{Rights: []api.Right{
		{No: 7, Holder: 4, Age: 10, Valley: 5, From: 11, To: 12, Claim: 13}, {No: 9, Holder: 1, Age: 10, Valley: 5, From: 11, To: 12, Claim: 13}, {No: 3, Holder: 2, Age: 20, Valley: 6, From: 14, To: 15, Claim: 16},
	}}, e, api.OK)
	want(t, y, "promise 0", "7 0\n9 0\n3 0")
	do(t, y, "day 1")
	s, e = y.Share(0)
	same(t, "Share", s, api.Share{Rights: []api.Right{
		{No: 7, Holder: 4, Age: 10, Valley: 5, From: 11, To: 12, Claim: 13}, {No: 3, Holder: 2, Age: 20, Valley: 6, From: 14, To: 15, Claim: 16}, {No: 4, Holder: 3, Age: 21, Valley: 6, From: 14, To: 15, Claim: 16},
	}}, e, api.OK)
	full := filled(t, many(33, func(i int) string { return fmt.Sprint("grant ", i, " 20 1 5 11 12 13") }))
	fails(t, full, "promise 3", api.ErrLimit)
	do(t, full, "write 3 end 32 20")
	if s, e := full.Share(3); e != api.OK || len(s.Rights) != 32 {
		t.Error(len(s.Rights), e)
	}
}

// P10.4: supplies, for the dates of today's bulletins, by valley and date, each once.
func TestShareSupplies(t *testing.T) {
	y := morning(t)
	takes(t, y, warm()...)
	takes(t, y, "cell 3 2000 5 7 4", "spring 3 20 90/0 80/0 70/2 30/0", "pond 6 1", "pond 5 9", "course 2 3 20 1 1 100 20 40/40/140/0/0")
	do(t, y, "tell 0 5 22", "tell 0 5 20", "tell 0 4 21", "tell 0 5 22")
	s, e := y.Share(0)
	same(t, "Share", s, api.Share{
		Supplies: []api.Supply{{Valley: 4, Day: 21, Volume: 7 * 27}, {Valley: 5, Day: 22, Volume: 20 * 51}}, Ponds: []api.Pond{{Valley: 5, Room: 9}, {Valley: 6, Room: 1}},
	}, e, api.OK)
	// A further date parts the water: on the second day least comes in the other spring.
	do(t, y, "tell 0 5 21")
	s, e = y.Share(0)
	same(t, "Supplies", s.Supplies, []api.Supply{{Valley: 4, Day: 21, Volume: 7 * 27}, {Valley: 5, Day: 21, Volume: 20 * 27}, {Valley: 5, Day: 22, Volume: 20 * 24}}, e, api.OK)
	takes(t, y, "grant 1 1 1 5 20 22 1000", "grant 2 2 1 5 22 22 30", "grant 3 3 1 4 22 22 1")
	want(t, y, "promise 0", "1 1000\n2 20\n3 0")
	// It rests on what is known now, whatever the bulletins told.
	takes(t, y, "spring 4 20 60/0 60/0")
	want(t, y, "promise 0", "1 720\n2 0\n3 0")
	// A date behind the end of a spring that has come is an error.
	takes(t, y, "spring 9 20 100/0")
	fails(t, y, "promise 0", api.ErrArg)
	if s, e := y.Share(0); e != api.ErrArg || len(s.Rights)+len(s.Supplies)+len(s.Ponds) > 0 {
		t.Error(s, e)
	}
	// On the next day nothing was told yet.
	do(t, y, "day 1")
	s, e = y.Share(0)
	same(t, "Supplies", s.Supplies, []api.Supply{}, e, api.OK)
}

// P10.4: what can go wrong with supplies, the first valley and date first.
func TestShareErrors(t *testing.T) {
	start := []string{"begin 2", "day 20", "write 1 cell 1 1000 0 10 5", "write 1 cell 2 1000 5 10 6", "write 1 climate 1000 0 50 10 -100 150 300 300", "write 1 spring 1 20 100/0 100/0", "tell 1 5 22", "tell 1 6 22"}
	climate := "write 0 climate 1000 0 50 10 -100 150 300 300"
	for _, x := range []struct {
		e     api.Errno
		lines []string
	}{
		{api.OK, nil},
		{api.ErrNone, []string{"write 0 cell 1 1000 0 10 7"}},
		{api.ErrNone, []string{"write 0 cell 2 1000 5 10 7"}},
		{api.ErrNone, []string{climate, "write 0 weather 20 50 0"}},
		{api.ErrArg, []string{climate, "write 0 spring 9 20 100/0"}},
		// The valley 5 lacks cells ahead of dates, and the valley 6 behind what is wrong with a date of the valley 5.
		{api.ErrNone, []string{"write 0 cell 1 1000 0 10 7", climate, "write 0 spring 9 20 100/0"}},
		{api.ErrArg, []string{"write 0 cell 2 1000 5 10 7", climate, "write 0 spring 9 20 100/0"}},
		{api.ErrClash, []string{"write 0 pillow 1 1 0 0 0 0", "write 0 pillow 2 1 0 0 0 0", "write 0 shown 1 20 5", "write 0 shown 2 20 6", climate, "write 0 spring 9 20 100/0"}},
		{api.ErrLimit, []string{"write 0 cell 1 1000 0 10 7", "write 0 pillow 1 1 0 0 0 9", "write 0 shown 1 16 5", "write 0 shown 1 17 5", "write 0 shown 1 18 5", "write 0 shown 1 19 5"}},
	} {
		y := begun(t, start...)
		do(t, y, x.lines...)
		do(t, y, "send 0 1 0")
		if _, e := y.Share(1); e != x.e {
			t.Error(x, e)
		}
		// Who has told nothing has no such error.
		if _, e := y.Share(0); e != api.OK {
			t.Error(x, e)
		}
	}
}

// P10.4: at most 64 supplies.
func TestShareLimit(t *testing.T) {
	y := begun(t, "begin 1", "day 20", "write 0 cell 1 1000 0 10 5", "write 0 cell 2 1000 5 10 6", "write 0 climate 1000 0 50 10 -100 150 300 300", "write 0 spring 1 20"+strings.Repeat(" 100/0", 64))
	for i := range 64 {
		do(t, y, fmt.Sprint("tell 0 5 ", 21+i))
	}
	do(t, y, "tell 0 6 20")
	s, e := y.Share(0)
	if e != api.OK || len(s.Supplies) != 64 || s.Supplies[63].Day != 84 {
		t.Error(len(s.Supplies), e)
	}
	do(t, y, "tell 0 6 21")
	fails(t, y, "promise 0", api.ErrLimit)
	want(t, y, "day 1", "21")
	want(t, y, "promise 0", "")
}
