package radio

import (
	"slices"

	"snowline/api"
)

// Book is an office's collection of the messages of all offices, on a disk.
type Book struct {
	disk   *Disk
	falls  int        // how often the power of the disk had gone off when the book was made or opened
	end    int        // the sector behind the last record
	bodies [][]string // of the messages, by office, then by number
}

// Make makes an empty book for so many offices on d.
func Make(d *Disk, offices int) (*Book, api.Errno) {
	if d == nil || !isIn(offices, 1, api.MaxOffices) {
		return nil, api.ErrArg
	}
	n, e := writeRecord(d, 0, beginningPayload(offices))
	if e != api.OK {
		return nil, e
	}
	return newBook(d, offices, n), api.OK
}

// Open opens the book on d.
func Open(d *Disk) (*Book, api.Errno) {
	if d == nil {
		return nil, api.ErrArg
	}
	if !d.Up() {
		return nil, api.ErrDown
	}
	payload, n := readRecord(d, 0)
	offices, is := readBeginning(payload)
	if !is {
		return nil, api.ErrDisk
	}
	b := newBook(d, offices, n)
	for {
		payload, n := readRecord(d, b.end)
		e, is := readMessage(payload)
		if !is || !b.isChangedBy(e) {
			return b, api.OK
		}
		b.put(e)
		b.end += n
	}
}

func newBook(d *Disk, offices, end int) *Book {
	return &Book{disk: d, falls: d.falls, end: end, bodies: make([][]string, offices)}
}

// Offices returns for how many offices b is.
func (b *Book) Offices() int { return len(b.bodies) }

// Add adds the next message of an office.
func (b *Book) Add(e api.Entry) api.Errno {
	if b.isCutOff() {
		return api.ErrDown
	}
	if !b.isFor(e) {
		return api.ErrEntry
	}
	l := b.bodies[e.Office]
	if e.No < len(l) && l[e.No] == e.Body {
		return api.OK
	}
	if e.No != len(l) {
		return api.ErrEntry
	}
	return b.enter(e)
}

// Take adds the messages of l that are new or better, and returns how many are.
func (b *Book) Take(l []api.Entry) (int, api.Errno) {
	if b.isCutOff() {
		return 0, api.ErrDown
	}
	var considered []api.Entry
	for _, e := range l {
		if b.isFor(e) {
			considered = append(considered, e)
		}
	}
	n := 0
	for _, e := range leastOfEach(considered) {
		if !b.isChangedBy(e) {
			continue
		}
		if err := b.enter(e); err != api.OK {
			return 0, err
		}
		n++
	}
	return n, api.OK
}

// Entries returns the messages of an office.
func (b *Book) Entries(office int) ([]api.Entry, api.Errno) {
	if !isIn(office, 0, b.Offices()-1) {
		return nil, api.ErrArg
	}
	return b.entries(office), api.OK
}

// All returns all messages, by office, then by number.
func (b *Book) All() []api.Entry {
	var l []api.Entry
	for office := range b.Offices() {
		l = append(l, b.entries(office)...)
	}
	return l
}

// Tally returns how many messages of each office b has, and their sums.
func (b *Book) Tally() api.Tally {
	var t api.Tally
	for office := range b.Offices() {
		l := b.entries(office)
		t.Have = append(t.Have, len(l))
		t.Sums = append(t.Sums, sum(l))
	}
	return t
}

// Wanted returns the messages that a book with the tally t does not have, or has otherwise.
func (b *Book) Wanted(t api.Tally) ([]api.Entry, api.Errno) {
	isNegative := func(x int) bool { return x < 0 }
	if len(t.Have) != b.Offices() || len(t.Sums) != b.Offices() || slices.ContainsFunc(t.Have, isNegative) {
		return nil, api.ErrArg
	}
	var out []api.Entry
	for office, have := range t.Have {
		l := b.entries(office)
		if have <= len(l) && sum(l[:have]) == t.Sums[office] {
			l = l[have:]
		}
		out = append(out, l...)
	}
	return out, api.OK
}

// isCutOff reports whether the power of the disk has gone off since the book was made or opened.
func (b *Book) isCutOff() bool { return b.falls != b.disk.falls }

// isFor reports whether e is valid, and of one of the offices of b.
func (b *Book) isFor(e api.Entry) bool {
	return CheckEntry(e) == api.OK && e.Office < b.Offices()
}

// isChangedBy reports whether e changes b.
func (b *Book) isChangedBy(e api.Entry) bool {
	if !b.isFor(e) {
		return false
	}
	l := b.bodies[e.Office]
	return e.No == len(l) || e.No < len(l) && e.Body < l[e.No]
}

// enter writes the record of a message that changes b, and puts it in.
func (b *Book) enter(e api.Entry) api.Errno {
	n, err := writeRecord(b.disk, b.end, messagePayload(e))
	if err != api.OK {
		return err
	}
	b.end += n
	b.put(e)
	return api.OK
}

// put puts a message that changes b to its place.
func (b *Book) put(e api.Entry) {
	l := b.bodies[e.Office]
	if e.No < len(l) {
		l[e.No] = e.Body
	} else {
		b.bodies[e.Office] = append(l, e.Body)
	}
}

// entries returns the messages of an office of b.
func (b *Book) entries(office int) []api.Entry {
	l := make([]api.Entry, len(b.bodies[office]))
	for no, body := range b.bodies[office] {
		l[no] = api.Entry{Office: office, No: no, Body: body}
	}
	return l
}
