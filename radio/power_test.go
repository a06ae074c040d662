package radio_test

import (
	"math/rand"
	"slices"
	"strings"
	"testing"

	"snowline/api"
	"snowline/radio"
)

// call is a call of Write, or of Sync if at is below 0.
type call struct {
	at int
	s  string
}

// callsOf tells from the chapter by which calls a record is written behind the first sectors of a disk with so many.
func callsOf(record []string, at, sectors int) []call {
	var l []call
	for i, s := range record[1:] {
		l = append(l, call{at + 1 + i, s})
	}
	if behind := at + len(record); behind < sectors {
		l = append(l, call{behind, padded("")})
	}
	return append(l, call{at: -1}, call{at, record[0]}, call{at: -1})
}

// do does the calls until one of them returns an error.
func do(d *radio.Disk, l []call) {
	for _, x := range l {
		e := api.OK
		if x.at < 0 {
			e = d.Sync()
		} else {
			e = d.Write(x.at, x.s)
		}
		if e != api.OK {
			return
		}
	}
}

// P9.5: by which calls records are written: whichever of them is the last one, the same survives as if they were made by hand.
func TestCallsOfRecords(t *testing.T) {
	r := rand.New(rand.NewSource(951))
	old := strings.Repeat("\x01", 64)
	body := strings.Repeat("s", 150)
	for _, sectors := range []int{5, 6, 7, 8} {
		begin := records("\x01\x02")
		calls := callsOf(begin, 0, sectors)
		start := len(calls)
		calls = append(calls, callsOf(messageRecord(entry(1, 0, "b")), 1, sectors)...)
		calls = append(calls, callsOf(messageRecord(entry(0, 0, body)), 2, sectors)...)
		last := len(calls)
		if sectors > 5 {
			calls = append(calls, callsOf(messageRecord(entry(1, 0, "a")), 5, sectors)...)
		}
		for n := 1; n <= len(calls)+1; n++ {
			for range 20 {
				d, byHand := newDisk(t, sectors), newDisk(t, sectors)
				for i := range sectors {
					d.Write(i, old)
					byHand.Write(i, old)
				}
				d.Sync()
				byHand.Sync()
				d.Arm(n)
				byHand.Arm(n)
				do(byHand, calls)
				b, e := radio.Make(d, 2)
				if (e == api.OK) != (n > start) || e != api.OK && (e != api.ErrDown || b != nil) {
					t.Fatal(sectors, n, e)
				}
				if b != nil {
					b.Add(entry(1, 0, "b"))
					e := b.Add(entry(0, 0, body))
					if (e == api.OK) != (n > last) || (e == api.ErrDown) != (n <= last) {
						t.Fatal(sectors, n, e)
					}
					b.Take([]api.Entry{entry(1, 0, "a")})
				}
				if d.Up() != byHand.Up() || d.Up() != (n > len(calls)) {
					t.Fatal(sectors, n)
				}
				keep := someBytes(r, r.Intn(6))
				d.Restart(keep)
				byHand.Restart(keep)
				if l := content(t, d); !slices.Equal(l, content(t, byHand)) {
					t.Fatalf("%d %d %q %q", sectors, n, keep, l)
				}
			}
		}
	}
}

// P9.5: a book remains as it was before the record whose writing was interrupted.
func TestInterruptedRecord(t *testing.T) {
	first := entry(0, 0, "m")
	l := []api.Entry{entry(0, 0, "a"), entry(0, 1, strings.Repeat("b", 100)), entry(1, 0, "c")}
	// The records take four, five and four calls.
	for n := 1; n <= 14; n++ {
		d, b := newBook(t, 20, 2, first)
		d.Arm(n)
		written, e := b.Take(l)
		want := []api.Entry{first}
		switch {
		case n > 13:
			want = l
		case n > 9:
			want = l[:2]
		case n > 4:
			want = l[:1]
		}
		if n > 13 {
			if written != 3 || e != api.OK {
				t.Error(n, written, e)
			}
		} else if written != 0 || e != api.ErrDown {
			t.Error(n, written, e)
		}
		checkAll(t, b, 2, want)
		d.Restart("")
		checkAll(t, open(t, d), 2, want)
		if e := b.Add(want[0]); e != api.ErrDown {
			t.Error(n, e)
		}
	}
}

// someKeep returns what may survive of a few writes.
func someKeep(r *rand.Rand) string {
	l := make([]byte, r.Intn(20))
	for i := range l {
		l[i] = pick(r, []byte{0, 1, 4, 5, 63, 64, 255})
	}
	return string(l)
}

// history is what was given to the book on a disk.
type history struct {
	added, given []api.Entry
}

// check compares a book with what must be, and what can be, in it.
func (h *history) check(t *testing.T, b *radio.Book) {
	t.Helper()
	for _, e := range h.added {
		l, _ := b.Entries(e.Office)
		if e.No >= len(l) || l[e.No].Body > e.Body {
			t.Fatal(e, l)
		}
	}
	for _, e := range b.All() {
		if !slices.Contains(h.given, e) {
			t.Fatal(e)
		}
	}
}

// add adds the next message of an office, or one that b has.
func (h *history) add(r *rand.Rand, b *radio.Book) api.Errno {
	office := r.Intn(b.Offices())
	e := entry(office, b.Tally().Have[office], strings.Repeat(pick(r, []string{"a", "b", "c"}), r.Intn(150)))
	if l, _ := b.Entries(office); len(l) > 0 && r.Intn(4) == 0 {
		e = pick(r, l)
	}
	h.given = append(h.given, e)
	err := b.Add(e)
	if err == api.OK {
		h.added = append(h.added, e)
	}
	return err
}

// P9.9 and P9.12: whenever the power goes off, and whatever survives.
func TestNothingIsLost(t *testing.T) {
	r := rand.New(rand.NewSource(99))
	downs, full, messages := 0, 0, 0
	for range 1500 {
		d, b := newBook(t, between(r, 2, 40), between(r, 1, 3))
		h := &history{}
		for range between(r, 1, 6) {
			if r.Intn(4) > 0 {
				d.Arm(between(r, 1, 30))
			}
			for err := api.OK; err != api.ErrDown && err != api.ErrFull; {
				before := b.All()
				if r.Intn(3) > 0 {
					err = h.add(r, b)
				} else {
					l := someEntries(r, 6, b.Offices(), 4)
					h.given = append(h.given, l...)
					_, err = b.Take(l)
				}
				h.check(t, b)
				for _, e := range before {
					if l, _ := b.Entries(e.Office); e.No >= len(l) || l[e.No].Body > e.Body {
						t.Fatal(e, l)
					}
				}
				if err == api.ErrDown {
					downs++
				} else if err == api.ErrFull {
					full++
				} else if err != api.OK {
					t.Fatal(err)
				} else if r.Intn(30) == 0 {
					break
				}
			}
			former := b.Offices()
			d.Restart(someKeep(r))
			b = open(t, d)
			h.check(t, b)
			if b.Offices() != former {
				t.Fatal(b.Offices())
			}
		}
		messages += len(b.All())
	}
	if downs < 1000 || full < 500 || messages < 3000 {
		t.Error(downs, full, messages)
	}
}

// wanted returns what b has for a tally.
func wanted(t *testing.T, b *radio.Book, tally api.Tally) []api.Entry {
	t.Helper()
	l, e := b.Wanted(tally)
	if e != api.OK {
		t.Fatal(tally, e)
	}
	return l
}

// take has b take l.
func take(t *testing.T, b *radio.Book, l []api.Entry) int {
	t.Helper()
	n, e := b.Take(l)
	if e != api.OK {
		t.Fatal(l, e)
	}
	return n
}

// P9.10: two books that take what the other one has for their tallies have the same.
func TestBooksAgree(t *testing.T) {
	r := rand.New(rand.NewSource(910))
	exchanged := 0
	for range 2000 {
		offices := between(r, 1, 4)
		_, a := newBook(t, 200, offices)
		_, b := newBook(t, 200, offices)
		both := someEntries(r, 20, offices, 6)
		take(t, a, append(someEntries(r, 20, offices, 6), both...))
		take(t, b, append(someEntries(r, 20, offices, 6), both...))
		for _, x := range [][2]*radio.Book{{a, b}, {b, a}} {
			tally := x[0].Tally()
			ahead := wanted(t, x[0], x[1].Tally())
			exchanged += take(t, x[0], wanted(t, x[1], tally))
			if r.Intn(2) == 0 {
				// What the first one has taken meanwhile makes no difference.
				ahead = wanted(t, x[0], x[1].Tally())
			}
			exchanged += take(t, x[1], ahead)
			checkAll(t, x[1], offices, x[0].All())
			if len(wanted(t, x[0], x[1].Tally())) > 0 {
				t.Fatal(x[0].All())
			}
		}
	}
	if exchanged < 2000 {
		t.Error(exchanged)
	}
}

// P9.11 and P9.12: neither order nor repetitions matter, and nothing is taken twice.
func TestAnyOrder(t *testing.T) {
	r := rand.New(rand.NewSource(911))
	changed := 0
	for range 1000 {
		offices := between(r, 1, 3)
		before, l := someEntries(r, 8, offices, 4), someEntries(r, 12, offices, 6)
		_, a := newBook(t, 100, offices)
		_, b := newBook(t, 100, offices)
		take(t, a, before)
		take(t, b, shuffled(r, before))
		former := a.All()
		n := take(t, a, l)
		var more []api.Entry
		for range r.Intn(20) {
			if len(l) > 0 {
				more = append(more, pick(r, l))
			}
		}
		if m := take(t, b, shuffled(r, append(more, l...))); m != n {
			t.Fatal(l, n, m)
		}
		changed += n
		checkAll(t, b, offices, a.All())
		if take(t, a, l) != 0 || take(t, a, shuffled(r, more)) != 0 || len(wanted(t, a, a.Tally())) > 0 {
			t.Fatal(l)
		}
		checkAll(t, a, offices, b.All())
		for _, e := range former {
			if own, _ := a.Entries(e.Office); e.No >= len(own) || own[e.No].Body > e.Body {
				t.Fatal(e, own)
			}
		}
	}
	if changed < 1000 {
		t.Error(changed)
	}
}

// heard returns what can be read of messages on the radio, which doubles, delays and garbles within its bound.
func heard(t *testing.T, r *rand.Rand, l []api.Entry) []api.Entry {
	t.Helper()
	var sent []string
	for _, e := range l {
		for _, f := range split(t, e) {
			s := encoded(t, f)
			sent = append(sent, garbled(r, s, r.Intn(3)))
			for range r.Intn(3) {
				sent = append(sent, garbled(r, s, r.Intn(5)))
			}
		}
	}
	out, _, e := radio.Heard(shuffled(r, sent))
	if e != api.OK {
		t.Fatal(e)
	}
	return out
}

// P0.6: books that send each other what they have are the same in the end, whatever the radio and the power do.
func TestTheSame(t *testing.T) {
	r := rand.New(rand.NewSource(6))
	downs, messages := 0, 0
	for range 300 {
		offices := between(r, 1, 4)
		l := someEntries(r, 40, offices, 6)
		var disks [3]*radio.Disk
		var books [3]*radio.Book
		for i := range books {
			disks[i], books[i] = newBook(t, 400, offices)
			for _, e := range shuffled(r, l)[:r.Intn(len(l)+1)] {
				take(t, books[i], []api.Entry{e})
			}
		}
		for isNew := true; isNew; {
			isNew = false
			for i := range 9 {
				from, to := i/3, i%3
				disks[to].Arm(r.Intn(25))
				n, e := books[to].Take(heard(t, r, wanted(t, books[from], books[to].Tally())))
				if e == api.ErrDown {
					disks[to].Restart(someKeep(r))
					books[to] = open(t, disks[to])
					downs++
				} else if e != api.OK {
					t.Fatal(e)
				}
				isNew = isNew || n > 0 || e != api.OK
			}
		}
		for i := range books {
			checkAll(t, books[i], offices, books[0].All())
			disks[i].Restart("")
			checkAll(t, open(t, disks[i]), offices, books[0].All())
		}
		messages += len(books[0].All())
	}
	if downs < 300 || messages < 500 {
		t.Error(downs, messages)
	}
}
