package radio_test

import (
	"math"
	"math/rand"
	"slices"
	"strings"
	"testing"

	"snowline/api"
	"snowline/radio"
)

// checkAll compares all that a book tells with messages.
func checkAll(t *testing.T, b *radio.Book, offices int, want []api.Entry) {
	t.Helper()
	if l := b.All(); !slices.Equal(l, want) || b.Offices() != offices {
		t.Fatal(b.Offices(), l, want)
	}
	tally := b.Tally()
	if len(tally.Have) != offices || len(tally.Sums) != offices {
		t.Fatal(tally)
	}
	for office := range offices {
		var own []api.Entry
		for _, e := range want {
			if e.Office == office {
				own = append(own, e)
			}
		}
		if l, e := b.Entries(office); !slices.Equal(l, own) || e != api.OK {
			t.Fatal(office, l, e)
		}
		if tally.Have[office] != len(own) || tally.Sums[office] != sum(t, own...) {
			t.Fatal(office, tally)
		}
	}
}

// P9.5
func TestMake(t *testing.T) {
	d := newDisk(t, 3)
	for _, n := range []int{0, -1, 9, 256, 257, math.MaxInt, math.MinInt} {
		if b, e := radio.Make(d, n); b != nil || e != api.ErrArg {
			t.Error(n, e)
		}
	}
	if b, e := radio.Make(nil, 1); b != nil || e != api.ErrArg {
		t.Error(e)
	}
	for n := 1; n <= 8; n++ {
		b, e := radio.Make(d, n)
		if e != api.OK {
			t.Fatal(n, e)
		}
		checkAll(t, b, n, nil)
		checkAll(t, open(t, d), n, nil)
		if e := b.Add(entry(n-1, 0, "s")); e != api.OK {
			t.Error(n, e)
		}
		checkAll(t, open(t, d), n, []api.Entry{entry(n-1, 0, "s")})
	}
	d.Arm(1)
	d.Sync()
	if b, e := radio.Make(d, 1); b != nil || e != api.ErrDown {
		t.Error(e)
	}
	if b, e := radio.Make(d, 0); b != nil || e != api.ErrArg {
		t.Error(e)
	}
	if b, e := radio.Open(d); b != nil || e != api.ErrDown {
		t.Error(e)
	}
}

// P9.5, with the chapter's example of a disk of one sector.
func TestFullDisk(t *testing.T) {
	for sectors := 1; sectors <= 5; sectors++ {
		d, b := newBook(t, sectors, 2)
		var want []api.Entry
		for no := range sectors - 1 {
			want = append(want, entry(1, no, strings.Repeat("s", 56)))
			if e := b.Add(want[no]); e != api.OK {
				t.Error(sectors, no, e)
			}
		}
		before := content(t, d)
		if e := b.Add(entry(0, 0, "")); e != api.ErrFull {
			t.Error(sectors, e)
		}
		if n, e := b.Take([]api.Entry{entry(0, 0, ""), entry(1, 0, "s")}); n != 0 || e != api.ErrFull {
			t.Error(sectors, n, e)
		}
		for _, e := range want {
			if err := b.Add(e); err != api.OK {
				t.Error(sectors, e, err)
			}
		}
		if !slices.Equal(before, content(t, d)) {
			t.Error(sectors, content(t, d))
		}
		checkAll(t, b, 2, want)
		checkAll(t, open(t, d), 2, want)
	}
	// What is too long for the disk is not taken, what was taken before it stays, and what comes behind it is not looked at.
	d, b := newBook(t, 3, 3)
	if n, e := b.Take([]api.Entry{entry(2, 0, "c"), entry(1, 0, strings.Repeat("b", 57)), entry(0, 0, "a")}); n != 0 || e != api.ErrFull {
		t.Error(n, e)
	}
	checkAll(t, open(t, d), 3, []api.Entry{entry(0, 0, "a")})
	if e := b.Add(entry(2, 0, "c")); e != api.OK {
		t.Error(e)
	}
	checkAll(t, b, 3, []api.Entry{entry(0, 0, "a"), entry(2, 0, "c")})
}

// P9.5: what stands on the disk, whatever was there before.
func TestRecords(t *testing.T) {
	d := newDisk(t, 60)
	old := strings.Repeat("\x01", 64)
	for i := range d.Sectors() {
		d.Write(i, old)
	}
	b, e := radio.Make(d, 3)
	if e != api.OK {
		t.Fatal(e)
	}
	want := records("\x01\x03")
	check := func() {
		t.Helper()
		l := append(slices.Clone(want), padded(""))
		for len(l) < d.Sectors() {
			l = append(l, old)
		}
		if s := content(t, d); !slices.Equal(s, l) {
			t.Fatalf("%q", s)
		}
	}
	check()
	for no, n := range []int{0, 1, 55, 56, 57, 58, 119, 120, 121, 122, 184, 250, 1024} {
		x := entry(2, no, strings.Repeat("s", n))
		if e := b.Add(x); e != api.OK {
			t.Fatal(no, e)
		}
		want = append(want, messageRecord(x)...)
		check()
	}
	if n, e := b.Take([]api.Entry{entry(2, 3, "a"), entry(0, 0, "b")}); n != 2 || e != api.OK {
		t.Error(n, e)
	}
	want = slices.Concat(want, messageRecord(entry(0, 0, "b")), messageRecord(entry(2, 3, "a")))
	check()
	checkAll(t, open(t, d), 3, b.All())
}

// P9.5: what Open finds on disks that were written in another way.
func TestOpen(t *testing.T) {
	if b, e := radio.Open(nil); b != nil || e != api.ErrArg {
		t.Error(e)
	}
	marked := func(s string) string { return padded(s)[:63] + "\x01" }
	begin := records("\x01\x02")
	message := func(office, no int, body string) []string { return messageRecord(entry(office, no, body)) }
	long := strings.Repeat("l", 200)
	// The lengths of the payload that these state differ by their upper bytes.
	longer := func(upper ...byte) []string {
		l := message(0, 0, strings.Repeat("l", 257))
		l[0] = l[0][:1] + string(upper) + l[0][4:]
		return l
	}
	filled := marked("\x04\x00\x00\x00\x02\x00\x00afilling")
	for i, x := range []struct {
		l    []string
		want []api.Entry
		e    api.Errno
	}{
		{nil, nil, api.ErrDisk}, {[]string{marked("")}, nil, api.ErrDisk}, {records("\x01\x00"), nil, api.ErrDisk}, {records("\x01\x09"), nil, api.ErrDisk}, {records("\x01"), nil, api.ErrDisk}, {records("\x01\x02\x00"), nil, api.ErrDisk}, {records("\x02\x02"), nil, api.ErrDisk}, {records("\x03\x02"), nil, api.ErrDisk},
		{message(0, 0, "a"), nil, api.ErrDisk}, {[]string{padded("\x02\x00\x00\x00\x01\x02")}, nil, api.ErrDisk}, {[]string{padded("\x02\x00\x00\x00\x01\x02")[:63] + "\x02"}, nil, api.ErrDisk}, {[]string{marked("\x02\x00\x00\x01\x01\x02")}, nil, api.ErrDisk}, {[]string{marked("\x02\x00\x00\x80\x01\x02")}, nil, api.ErrDisk}, {[]string{marked("\x02\x01\x00\x00\x01\x02")}, nil, api.ErrDisk},
		{slices.Concat(begin, longer(0, 0, 1)), nil, api.OK}, {slices.Concat(begin, longer(0, 1, 0)), nil, api.OK}, {slices.Concat(begin, longer(1, 0, 0)), []api.Entry{entry(0, 0, strings.Repeat("l", 257))}, api.OK},
		{slices.Concat([]string{padded("")}, begin), nil, api.ErrDisk}, {begin, nil, api.OK}, {[]string{marked("\x02\x00\x00\x00\x01\x02filling")}, nil, api.OK}, {slices.Concat(begin, begin), nil, api.OK}, {slices.Concat(begin, begin, message(0, 0, "a")), nil, api.OK},
		{slices.Concat(begin, message(0, 0, "a")), []api.Entry{entry(0, 0, "a")}, api.OK}, {slices.Concat(begin, []string{filled}), []api.Entry{entry(0, 0, "a")}, api.OK}, {slices.Concat(begin, message(0, 0, "")), []api.Entry{entry(0, 0, "")}, api.OK}, {slices.Concat(begin, records("\x02\x00")), nil, api.OK}, {slices.Concat(begin, records("\x03\x00\x00a")), nil, api.OK},
		{slices.Concat(begin, message(2, 0, "a")), nil, api.OK}, {slices.Concat(begin, message(1, 1, "a")), nil, api.OK}, {slices.Concat(begin, message(1, 255, "a")), nil, api.OK}, {slices.Concat(begin, message(1, 0, "b"), message(1, 0, "b"), message(0, 0, "a")), []api.Entry{entry(1, 0, "b")}, api.OK},
		{slices.Concat(begin, message(1, 0, "b"), message(1, 0, "c"), message(0, 0, "a")), []api.Entry{entry(1, 0, "b")}, api.OK}, {slices.Concat(begin, message(1, 0, "b"), message(1, 0, "a"), message(0, 0, "a")), []api.Entry{entry(0, 0, "a"), entry(1, 0, "a")}, api.OK},
		{slices.Concat(begin, message(1, 0, "b"), []string{padded("")}, message(0, 0, "a")), []api.Entry{entry(1, 0, "b")}, api.OK}, {slices.Concat(begin, message(1, 0, long), message(1, 1, "a")), []api.Entry{entry(1, 0, long), entry(1, 1, "a")}, api.OK},
		{slices.Concat(begin, message(1, 0, strings.Repeat("l", 1024)), message(1, 1, "a")), []api.Entry{entry(1, 0, strings.Repeat("l", 1024)), entry(1, 1, "a")}, api.OK}, {slices.Concat(begin, message(1, 0, strings.Repeat("l", 1025)), message(1, 1, "a")), nil, api.OK},
		{slices.Concat(begin, records("\x02"+strings.Repeat("\x00", 4095)), message(1, 0, "a")), nil, api.OK}, {slices.Concat(begin, message(0, 0, "a"), message(0, 2, "c"), message(0, 1, "b")), []api.Entry{entry(0, 0, "a")}, api.OK},
	} {
		d := newDisk(t, 80)
		for i, s := range x.l {
			d.Write(i, s)
		}
		before := content(t, d)
		b, e := radio.Open(d)
		if e != x.e || (b == nil) != (e != api.OK) {
			t.Error(i, e)
		}
		if !slices.Equal(before, content(t, d)) {
			t.Error(i, content(t, d))
		}
		if b == nil {
			continue
		}
		checkAll(t, b, 2, x.want)
		if e := b.Add(entry(1, b.Tally().Have[1], "next")); e != api.OK {
			t.Error(i, e)
		}
		checkAll(t, open(t, d), 2, b.All())
	}
	// A disk that ends before the record does.
	for n := 1; n < 4; n++ {
		d := newDisk(t, 1+n)
		for i, s := range slices.Concat(begin, message(1, 0, long))[:1+n] {
			d.Write(i, s)
		}
		checkAll(t, open(t, d), 2, nil)
	}
}

// P9.5
func TestAdd(t *testing.T) {
	d, b := newBook(t, 200, 2)
	var want []api.Entry
	for i, x := range []struct {
		e    api.Entry
		want api.Errno
	}{
		{entry(0, 1, "m"), api.ErrEntry}, {entry(0, 0, "m"), api.OK}, {entry(0, 0, "m"), api.OK}, {entry(0, 0, "l"), api.ErrEntry}, {entry(0, 0, "n"), api.ErrEntry}, {entry(0, 2, "m"), api.ErrEntry}, {entry(2, 0, "m"), api.ErrEntry}, {entry(-1, 0, "m"), api.ErrEntry}, {entry(8, 0, "m"), api.ErrEntry},
		{entry(0, -1, "m"), api.ErrEntry}, {entry(0, 64, "m"), api.ErrEntry}, {entry(0, math.MaxInt, "m"), api.ErrEntry}, {entry(math.MinInt, 0, "m"), api.ErrEntry}, {entry(0, 1, strings.Repeat("m", 1025)), api.ErrEntry}, {entry(0, 1, strings.Repeat("m", 1024)), api.OK}, {entry(0, 1, strings.Repeat("m", 1024)), api.OK},
		{entry(0, 2, ""), api.OK}, {entry(0, 2, ""), api.OK}, {entry(1, 0, "a"), api.OK}, {entry(0, 0, "m"), api.OK}, {entry(1, 0, ""), api.ErrEntry},
	} {
		before := len(b.All())
		if e := b.Add(x.e); e != x.want {
			t.Error(i, e)
		}
		if len(b.All()) > before {
			want = append(want, x.e)
		}
	}
	if len(want) != 4 {
		t.Fatal(want)
	}
	checkAll(t, b, 2, want)
	checkAll(t, open(t, d), 2, want)
	for no := 1; no < 64; no++ {
		if e := b.Add(entry(1, no, "a")); e != api.OK {
			t.Fatal(no, e)
		}
	}
	if e := b.Add(entry(1, 64, "a")); e != api.ErrEntry {
		t.Error(e)
	}
	if n, e := b.Take([]api.Entry{entry(1, 64, "a"), entry(1, 63, "")}); n != 1 || e != api.OK {
		t.Error(n, e)
	}
	checkAll(t, open(t, d), 2, b.All())
}

// P9.5, with the chapter's example.
func TestTakeExample(t *testing.T) {
	_, b := newBook(t, 9, 1, entry(0, 0, "b"))
	if n, e := b.Take([]api.Entry{entry(0, 0, "c")}); n != 0 || e != api.OK {
		t.Error(n, e)
	}
	if n, e := b.Take([]api.Entry{entry(0, 0, "a")}); n != 1 || e != api.OK {
		t.Error(n, e)
	}
	checkAll(t, b, 1, []api.Entry{entry(0, 0, "a")})
}

// taken tells from the chapter what a book for so many offices that contains l makes of m, and how many records are written.
func taken(offices int, l, m []api.Entry) ([]api.Entry, int) {
	var valid, out []api.Entry
	for _, e := range m {
		if e.Office >= 0 && e.Office < offices && e.No >= 0 && e.No < 64 && len(e.Body) <= 1024 {
			valid = append(valid, e)
		}
	}
	n := 0
	for office := range offices {
		for no := 0; ; no++ {
			former, had := least(l, office, no)
			body, is := least(valid, office, no)
			if !had && !is {
				break
			}
			if had && (!is || former <= body) {
				out = append(out, entry(office, no, former))
				continue
			}
			n++
			out = append(out, entry(office, no, body))
		}
	}
	return out, n
}

// P9.5
func TestTakeByTrying(t *testing.T) {
	r := rand.New(rand.NewSource(95))
	written := 0
	for range 1000 {
		offices := between(r, 1, 3)
		d, b := newBook(t, 200, offices)
		var want []api.Entry
		for range between(r, 1, 4) {
			l := someEntries(r, 12, 4, 5)
			for i := range l {
				switch r.Intn(20) {
				case 0:
					l[i].Office -= 4
				case 1:
					l[i].No -= 5
				case 2:
					l[i].Body = strings.Repeat("\x00", 1025)
				case 3:
					l[i].No = 64
				}
			}
			var n int
			want, n = taken(offices, want, l)
			written += n
			given := slices.Clone(l)
			if m, e := b.Take(l); m != n || e != api.OK {
				t.Fatal(l, m, n, e)
			}
			if !slices.Equal(given, l) {
				t.Fatal(given, l)
			}
			checkAll(t, b, offices, want)
		}
		checkAll(t, open(t, d), offices, want)
	}
	if written < 1000 {
		t.Error(written)
	}
}

// P9.5
func TestWanted(t *testing.T) {
	l := []api.Entry{entry(0, 0, "a"), entry(0, 1, "b"), entry(0, 2, "c"), entry(1, 0, "d")}
	_, b := newBook(t, 20, 2, l...)
	none, two, three, other := sum(t), sum(t, l[:2]...), sum(t, l[:3]...), sum(t, l[3])
	for i, x := range []struct {
		have []int
		sums []uint64
		want []api.Entry
	}{
		{[]int{0, 0}, []uint64{none, none}, l}, {[]int{3, 1}, []uint64{three, other}, nil}, {[]int{2, 1}, []uint64{two, other}, l[2:3]}, {[]int{2, 0}, []uint64{two, none}, l[2:]}, {[]int{2, 1}, []uint64{three, other}, l[:3]}, {[]int{3, 1}, []uint64{two, other}, l[:3]},
		{[]int{3, 1}, []uint64{three, none}, l[3:]}, {[]int{4, 1}, []uint64{three, other}, l[:3]}, {[]int{math.MaxInt, 1}, []uint64{three, other}, l[:3]}, {[]int{0, 0}, []uint64{0, 0}, l}, {[]int{0, 1}, []uint64{none, other}, l[:3]}, {[]int{3, 2}, []uint64{three, other}, l[3:]},
	} {
		if l, e := b.Wanted(api.Tally{Have: x.have, Sums: x.sums}); !slices.Equal(l, x.want) || e != api.OK {
			t.Error(i, l, e)
		}
	}
	for i, x := range []api.Tally{
		{}, {Have: []int{0, 0}}, {Sums: []uint64{none, none}}, {Have: []int{0}, Sums: []uint64{none}}, {Have: []int{0}, Sums: []uint64{none, none}}, {Have: []int{0, 0}, Sums: []uint64{none}}, {Have: []int{-1, 0}, Sums: []uint64{none, none}}, {Have: []int{0, -1}, Sums: []uint64{none, none}},
		{Have: []int{math.MinInt, 0}, Sums: []uint64{none, none}}, {Have: []int{0, 0}, Sums: []uint64{none, none, none}}, {Have: []int{0, 0, 0}, Sums: []uint64{none, none}}, {Have: []int{0, 0, 0}, Sums: []uint64{none, none, none}},
	} {
		if l, e := b.Wanted(x); len(l) != 0 || e != api.ErrArg {
			t.Error(i, l, e)
		}
	}
}

// P9.5: which offices a book knows; and R2: nobody can change a book by lists that it has returned or been given.
func TestBookKeepsItsOwn(t *testing.T) {
	l := []api.Entry{entry(0, 0, "a"), entry(0, 1, "b"), entry(1, 0, "c")}
	_, b := newBook(t, 20, 2)
	given := slices.Clone(l)
	if n, e := b.Take(given); n != 3 || e != api.OK {
		t.Error(n, e)
	}
	for _, office := range []int{-1, 2, 8, math.MaxInt, math.MinInt} {
		if l, e := b.Entries(office); len(l) != 0 || e != api.ErrArg {
			t.Error(office, l, e)
		}
	}
	wanted, _ := b.Wanted(api.Tally{Have: []int{0, 0}, Sums: []uint64{0, 0}})
	own, _ := b.Entries(0)
	for _, list := range [][]api.Entry{given, wanted, own, b.All()} {
		for i := range list {
			list[i] = api.Entry{}
		}
	}
	tally := b.Tally()
	tally.Have[0], tally.Sums[0] = 7, 7
	checkAll(t, b, 2, l)
}

// P9.5: what can be asked of a book whose disk has no power.
func TestBookWithoutDisk(t *testing.T) {
	l := []api.Entry{entry(0, 0, "a"), entry(1, 0, "c")}
	d, b := newBook(t, 20, 2, l...)
	d.Arm(1)
	d.Sync()
	checkAll(t, b, 2, l)
	if x, e := b.Wanted(api.Tally{Have: []int{0, 0}, Sums: []uint64{0, 0}}); !slices.Equal(x, l) || e != api.OK {
		t.Error(x, e)
	}
	for range 2 {
		for _, e := range []api.Entry{l[0], entry(0, 1, "b"), entry(9, 0, "")} {
			if err := b.Add(e); err != api.ErrDown {
				t.Error(e, err)
			}
			if n, err := b.Take([]api.Entry{e}); n != 0 || err != api.ErrDown {
				t.Error(e, n, err)
			}
		}
		if n, e := b.Take(nil); n != 0 || e != api.ErrDown {
			t.Error(n, e)
		}
		d.Restart("")
	}
	checkAll(t, b, 2, l)
	checkAll(t, open(t, d), 2, l)
}
