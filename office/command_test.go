package office_test

import (
	"fmt"
	"testing"

	"snowline/api"
	"snowline/office"
	"snowline/radio"
)

// P10.2: a new model, and what is not possible before begin.
func TestNew(t *testing.T) {
	y := office.New()
	if y.Day() != 0 || y.Offices() != 0 {
		t.Error(y.Day(), y.Offices())
	}
	for _, line := range []string{"day 1", "write 0 withdraw 1", "send 0 1 0", "sendall", "crash 0 1", "open 0 0", "refused 0", "cell 0 0 0", "volume 0 0 0", "tell 0 0 0", "scenes 0", "clash 0", "tracks 0", "promise 0", "agree 0 0"} {
		fails(t, y, line, api.ErrNotNow)
	}
	fails(t, y, "x", api.ErrCommand)
	fails(t, y, "begin 9", api.ErrCommand)
	for _, o := range []int{-1, 0, 1, 7} {
		for what, e := range closedErrors(y, o) {
			if e != api.ErrArg {
				t.Error(what, o, e)
			}
		}
	}
	if a, b := office.New(), office.New(); a == b {
		t.Error("the same model")
	}
}

// P10.2: begin and day.
func TestBeginAndDay(t *testing.T) {
	for offices := 1; offices <= 8; offices++ {
		y := office.New()
		want(t, y, fmt.Sprint("begin ", offices), "")
		if y.Offices() != offices || y.Day() != 0 {
			t.Error(y.Offices(), y.Day())
		}
		fails(t, y, "begin 1", api.ErrNotNow)
		for o := range offices {
			tally, e := y.Tally(o)
			same(t, "Tally", tally.Have, make([]int, offices), e, api.OK)
			want(t, y, fmt.Sprint("refused ", o), "0")
		}
		if offices < 8 {
			fails(t, y, fmt.Sprint("refused ", offices), api.ErrNotNow)
			fails(t, y, fmt.Sprint("open ", offices, " 0"), api.ErrNotNow)
			fails(t, y, fmt.Sprint("agree 0 ", offices), api.ErrNotNow)
			fails(t, y, fmt.Sprintf("send 0 %d 0", offices), api.ErrNotNow)
		}
	}
	y := begun(t, "begin 1")
	want(t, y, "day 7", "7")
	want(t, y, "day 1", "8")
	for i := range 10 {
		want(t, y, "day 100000", fmt.Sprint(8+100000*(i+1)))
	}
	fails(t, y, "day 48569", api.ErrArg)
	want(t, y, "day 48568", "1048576")
	fails(t, y, "day 1", api.ErrArg)
	if y.Day() != api.MaxDay {
		t.Error(y.Day())
	}
	want(t, y, "write 0 cell 1 1000 0 10 5", "0.0")
	want(t, y, "cell 0 1 1048576", "0 65536")
}

// P10.2: messages are numbered by office; a body has at most 1024 bytes, and an office at most 64 messages.
func TestWrite(t *testing.T) {
	y := begun(t, "begin 2", "day 3")
	want(t, y, "write 0 withdraw 5", "0.0")
	want(t, y, "write 1 withdraw 5", "1.0")
	want(t, y, "write 0 withdraw 5", "0.1")
	sum, _ := radio.Sum([]api.Entry{{Office: 0, No: 0, Body: "3 withdraw 5"}, {Office: 0, No: 1, Body: "3 withdraw 5"}})
	none, _ := radio.Sum(nil)
	tally, e := y.Tally(0)
	same(t, "Tally", tally, api.Tally{Have: []int{2, 0}, Sums: []uint64{sum, none}}, e, api.OK)
	want(t, y, "refused 0", "1")
	long := "write 0 course 1 2 10 0 1000 1048576 1048576 " + spread("20000/10000/1048576/10000/1048576", 32)
	checks(t, api.OK, long)
	fails(t, y, long, api.ErrEntry)
	for i := range 62 {
		want(t, y, fmt.Sprint("write 0 withdraw ", i+10), fmt.Sprint("0.", i+2))
	}
	fails(t, y, "write 0 withdraw 9", api.ErrEntry)
	want(t, y, "write 1 withdraw 9", "1.1")
	want(t, y, "refused 0", "1")
}

// P10.2: an office that has taken its own messages from another one goes on behind them.
func TestWriteBehindOwn(t *testing.T) {
	y := begun(t, "begin 3", "write 2 withdraw 1", "write 2 withdraw 2", "send 2 0 0", "write 0 withdraw 3", "send 0 1 0")
	want(t, y, "write 1 withdraw 4", "1.0")
	tally, e := y.Tally(1)
	same(t, "Tally", tally.Have, []int{1, 1, 2}, e, api.OK)
}

// P10.2: each digit of noise.
func TestNoise(t *testing.T) {
	for digit, comes := range "1110011110" {
		y := begun(t, "begin 2", "write 0 withdraw 1")
		want(t, y, fmt.Sprint("send 0 1 ", digit), string('0'+comes-'0'))
	}
	// Noise goes on over the frames of several messages, and begins again at its end.
	three := []string{"begin 2", "write 0 withdraw 1", "write 0 withdraw 2", "write 0 withdraw 3"}
	for _, x := range [][2]string{{"000", "3"}, {"9", "0"}, {"900", "0"}, {"090", "1"}, {"009", "2"}, {"09", "1"}, {"0009", "3"}, {"8884", "3"}, {"8834", "2"}, {"123", "2"}, {"567", "3"}} {
		y := begun(t, three...)
		want(t, y, "send 0 1 "+x[0], x[1])
		// What has not come is sent again.
		y.Do("send 0 1 0")
		want(t, y, "agree 0 1", "yes")
	}
	// A message of two frames, and one of one.
	two := []string{"begin 2", "write 0 climate 1000 6 50 10 -100 150 300 310", "write 0 withdraw 2"}
	for _, x := range [][2]string{{"000", "2"}, {"009", "1"}, {"09", "0"}, {"03", "0"}, {"012", "2"}, {"0094", "1"}, {"18", "2"}} {
		y := begun(t, two...)
		want(t, y, "send 0 1 "+x[0], x[1])
	}
}

// P10.2: sends go one way, and only between different offices whose books are open.
func TestSend(t *testing.T) {
	y := begun(t, "begin 3", "write 0 withdraw 1", "write 1 withdraw 2")
	fails(t, y, "send 1 1 0", api.ErrNotNow)
	want(t, y, "send 0 1 0", "1")
	want(t, y, "send 0 1 0", "0")
	tally, e := y.Tally(0)
	same(t, "Tally", tally.Have, []int{1, 0, 0}, e, api.OK)
	want(t, y, "send 1 2 0", "2")
	want(t, y, "agree 1 2", "yes")
	want(t, y, "agree 0 2", "no")
	do(t, y, "crash 2 1")
	fails(t, y, "write 2 withdraw 3", api.ErrDown)
	fails(t, y, "send 2 0 0", api.ErrNotNow)
	fails(t, y, "send 0 2 0", api.ErrNotNow)
	want(t, y, "sendall", "1")
	want(t, y, "sendall", "0")
	want(t, y, "agree 0 1", "yes")
	// The power goes off while messages are taken: what was taken before stays.
	do(t, y, "open 2 0", "write 0 withdraw 4", "write 0 withdraw 5", "crash 2 5")
	fails(t, y, "send 0 2 0", api.ErrDown)
	fails(t, y, "refused 2", api.ErrNotNow)
	do(t, y, "open 2 0")
	tally, e = y.Tally(2)
	same(t, "Tally", tally.Have, []int{2, 1, 0}, e, api.OK)
	// sendall ends with the first error: the second office still takes, the third one loses its power, nothing goes on.
	do(t, y, "write 1 withdraw 6", "crash 2 1")
	fails(t, y, "sendall", api.ErrDown)
	tally, e = y.Tally(1)
	same(t, "Tally", tally.Have, []int{3, 2, 0}, e, api.OK)
	tally, e = y.Tally(0)
	same(t, "Tally", tally.Have, []int{3, 1, 0}, e, api.OK)
}

// P10.2: messages go on from office to office in one sendall; what all sends return is counted.
func TestSendall(t *testing.T) {
	y := begun(t, "begin 4", "write 3 withdraw 1", "write 0 withdraw 2", "write 0 withdraw 3")
	want(t, y, "sendall", "9")
	for o := range 4 {
		want(t, y, fmt.Sprint("agree 0 ", o), "yes")
	}
	want(t, y, "sendall", "0")
	one := begun(t, "begin 1", "write 0 withdraw 2")
	want(t, one, "sendall", "0")
}

// P10.2: the power goes off at the N-th write or sync from now on; what survives of the writes that were not safe is as KEEP says, by 8 bytes a digit.
func TestCrashAndOpen(t *testing.T) {
	// A message of one sector is written by: zeros to the sector behind it, Sync, the sector, Sync.
	for _, x := range []struct {
		calls    int
		keep     string
		isInBook bool
	}{
		{1, "9", false}, {2, "9", false}, {3, "0", false}, {3, "7", false}, {3, "8", true}, {3, "9", true}, {3, "08", false}, {4, "8", true}, {4, "7", false}, {4, "0", false}, {4, "00000000", false},
	} {
		y := begun(t, "begin 1", "write 0 withdraw 1", fmt.Sprint("crash 0 ", x.calls))
		fails(t, y, "write 0 withdraw 2", api.ErrDown)
		for _, line := range []string{"write 0 withdraw 2", "crash 0 1", "refused 0", "cell 0 0 0", "volume 0 0 0", "tell 0 0 0", "scenes 0", "clash 0", "tracks 0", "promise 0", "agree 0 0"} {
			fails(t, y, line, api.ErrNotNow)
		}
		want(t, y, "sendall", "0")
		want(t, y, "day 1", "1")
		for what, e := range closedErrors(y, 0) {
			if e != api.ErrNotNow {
				t.Error(what, e)
			}
		}
		want(t, y, "open 0 "+x.keep, "")
		have := 1
		if x.isInBook {
			have = 2
		}
		tally, e := y.Tally(0)
		same(t, fmt.Sprint("Tally after ", x), tally.Have, []int{have}, e, api.OK)
		want(t, y, "write 0 withdraw 3", fmt.Sprint("0.", have))
	}
	// A crash that has not come yet is forgotten with open, and replaced by another one.
	y := begun(t, "begin 1", "crash 0 5", "write 0 withdraw 1", "open 0 0", "write 0 withdraw 2", "crash 0 1", "crash 0 5", "write 0 withdraw 3")
	fails(t, y, "write 0 withdraw 4", api.ErrDown)
	do(t, y, "open 0 99")
	tally, e := y.Tally(0)
	same(t, "Tally", tally.Have, []int{3}, e, api.OK)
}

// P10.2: a disk has 1024 sectors; a record that has no room leaves the book as it was, and open.
func TestFull(t *testing.T) {
	// The record of this body of 1019 bytes takes 17 sectors; the beginning takes one.
	form := "course 1 2 10 0 10 100 10 " + spread("20000/2000/1048576/2000/1048576", 31)
	y := begun(t, "begin 2")
	for range 60 {
		do(t, y, "write 0 "+form)
	}
	do(t, y, "write 1 withdraw 1", "write 1 "+form, "write 1 withdraw 2")
	before, e := y.Tally(0)
	same(t, "Tally", before.Have, []int{60, 0}, e, api.OK)
	fails(t, y, "write 0 "+form, api.ErrFull)
	tally, e := y.Tally(0)
	same(t, "Tally", tally, before, e, api.OK)
	// What has room ahead of what has none is taken.
	fails(t, y, "send 1 0 0", api.ErrFull)
	tally, e = y.Tally(0)
	same(t, "Tally", tally.Have, []int{60, 1}, e, api.OK)
	fails(t, y, "sendall", api.ErrFull)
	want(t, y, "write 0 withdraw 9", "0.60")
	want(t, y, "open 0 0", "")
	tally, e = y.Tally(0)
	same(t, "Tally", tally.Have, []int{61, 1}, e, api.OK)
	want(t, y, "refused 0", "0")
	// One sector is left.
	want(t, y, "write 0 withdraw 8", "0.61")
	fails(t, y, "write 0 withdraw 7", api.ErrFull)
	want(t, y, "refused 0", "0")
}

// shape returns all that a model tells of its offices.
func shape(y *office.Model) string {
	l := []any{y.Day(), y.Offices()}
	for o := range y.Offices() {
		l = append(l, told(y, o))
		told, e := y.Told(o)
		share, e2 := y.Share(o)
		l = append(l, told, e, share, e2)
	}
	return fmt.Sprint(l...)
}

// told returns all that an office tells, but its bulletins and its share, on the cells, valleys and days of plays.
func told(y *office.Model, o int) string {
	var l []any
	add := func(x ...any) { l = append(l, x...) }
	add(pair(y.Scales(o)), pair(y.Sheets(o)), pair(y.Pillows(o)), pair(y.Basin(o)), pair(y.Climate(o)), pair(y.Log(o)), pair(y.Springs(o)), pair(y.Register(o)), pair(y.Range(o)), pair(y.Refused(o)), pair(y.Tally(o)), pair(y.Scenes(o)), pair(y.Open(o)))
	accused, is, e := y.Accused(o)
	add(accused, is, e)
	for no := range 5 {
		for back := range 3 {
			add(pair(y.Cell(o, no, max(0, y.Day()-back))))
		}
	}
	for valley := 5; valley <= 6; valley++ {
		for date := range 4 {
			add(pair(y.Volume(o, valley, y.Day()+date)))
		}
	}
	return fmt.Sprint(l...)
}

// pair returns both results of a call as one value.
func pair(x any, e api.Errno) []any { return []any{x, e} }

// P10.2: a command that returns an error changes nothing.
func TestErrorsChangeNothing(t *testing.T) {
	y := morning(t)
	takes(t, y, warm()...)
	do(t, y, "tell 0 5 22", "write 0 course 2 2 20 1 1 100 20 400/400/500/0/0")
	before := shape(y)
	for line, e := range map[string]api.Errno{
		"": api.ErrCommand, "begin 2": api.ErrNotNow, "send 0 0 0": api.ErrNotNow, "write 2 withdraw 1": api.ErrNotNow, "cell 0 1 20": api.ErrClash, "tell 0 5 22": api.ErrClash, "tell 0 9 22": api.ErrNone, "tell 1 5 22": api.ErrNone, "volume 0 5 22": api.ErrClash, "tracks 0": api.ErrClash, "promise 0": api.ErrClash,
		"write 0 course 1 2 10 0 1000 1048576 1048576 " + spread("20000/10000/1048576/10000/1048576", 32): api.ErrEntry,
	} {
		fails(t, y, line, e)
		if shape(y) != before {
			t.Error(line, "changes something")
		}
	}
	do(t, y, "day 99999")
	for range 9 {
		do(t, y, "day 100000")
	}
	before = shape(y)
	fails(t, y, "day 100000", api.ErrArg)
	if shape(y) != before {
		t.Error("day changes something")
	}
}

// P10.2: results share no memory with the model, nor their parts with each other.
func TestResultsAreNew(t *testing.T) {
	y := morning(t)
	takes(t, y, warm()...)
	takes(t, y, "pillow 3 2 5 20 10 0", "shown 3 20 110", "course 4 2 19 1 1 100 20 100/100/220/0/0", "site 0 1 0", "site 1 1 0", "track 0 0 1 5 0 0", "pond 5 9", "grant 7 3 1 5 20 21 500")
	do(t, y, "tell 0 5 22", "write 0 withdraw 1", "tell 0 5 22")
	before := shape(y)
	scales, _ := y.Scales(0)
	scales[0].Tests[0].Lo, scales[0].No = 9, 9
	pillows, _ := y.Pillows(0)
	pillows[0].Log[0].Weight = 9
	b, _ := y.Basin(0)
	b.Cells[0].Area, b.Pairs[0] = 9, [2]int{9, 9}
	springs, _ := y.Springs(0)
	springs[0].Days[0].Temp = 9
	register, _ := y.Register(0)
	register.Events[0].Right = 9
	region, _ := y.Range(0)
	region.Sites[0].No, region.Tracks[0].No = 9, 9
	bulletins, _ := y.Told(0)
	bulletins[0].Rests[0], bulletins[1].Named[0] = 9, 9
	bulletins[0].Lo = 9
	water, _ := y.Share(0)
	water.Ponds[0].Room, water.Rights[0].Claim, water.Supplies[0].Volume = 1, 1, 1
	tally, _ := y.Tally(0)
	tally.Have[0], tally.Sums[0] = 9, 9
	l, _ := y.Scenes(0)
	if len(l) != 2 {
		t.Fatal(l)
	}
	second := fmt.Sprint(l[1])
	s := l[0]
	s.Days[0], s.Sights[0].Lo, s.Basin.Cells[0].Area, s.Basin.Pairs[0][0], s.Changes[0].Lo = 9, 9, 9, 9, 9
	if fmt.Sprint(l[1]) != second {
		t.Error("scenes share memory")
	}
	if shape(y) != before {
		t.Error("results share memory with the model")
	}
	l, _ = y.Scenes(0)
	same(t, "Days", l[0].Days, []int{19, 20}, 0, 0)
}
