package radio_test

import (
	"math/rand"
	"slices"
	"strings"
	"testing"

	"snowline/api"
	"snowline/radio"
)

// entry returns a message.
func entry(office, no int, body string) api.Entry {
	return api.Entry{Office: office, No: no, Body: body}
}

// between returns a number from least to greatest.
func between(r *rand.Rand, least, greatest int) int { return least + r.Intn(greatest-least+1) }

// pick returns an element of l.
func pick[T any](r *rand.Rand, l []T) T { return l[r.Intn(len(l))] }

// shuffled returns l in another order.
func shuffled[T any](r *rand.Rand, l []T) []T {
	l = slices.Clone(l)
	r.Shuffle(len(l), func(i, j int) { l[i], l[j] = l[j], l[i] })
	return l
}

// someBytes returns n bytes.
func someBytes(r *rand.Rand, n int) string {
	l := make([]byte, n)
	r.Read(l)
	return string(l)
}

// someFrame returns a valid frame with an encoding of so many bytes, 10 to 42.
func someFrame(r *rand.Rand, bytes int) api.Frame {
	f := api.Frame{Office: r.Intn(8), No: r.Intn(64), Parts: 1, Body: someBytes(r, bytes-10)}
	if bytes > 10 && r.Intn(4) > 0 {
		f.Parts = between(r, 1, 32)
		f.Part = f.Parts - 1
		if bytes == 42 {
			f.Part = r.Intn(f.Parts)
		}
	}
	return f
}

// encoded returns the encoding of a valid frame.
func encoded(t *testing.T, f api.Frame) string {
	t.Helper()
	s, e := radio.Encode(f)
	if e != api.OK {
		t.Fatal(f, e)
	}
	return s
}

// split returns the frames of a valid message.
func split(t *testing.T, e api.Entry) []api.Frame {
	t.Helper()
	l, err := radio.Split(e)
	if err != api.OK {
		t.Fatal(e, err)
	}
	return l
}

// sum returns the sum of valid messages.
func sum(t *testing.T, l ...api.Entry) uint64 {
	t.Helper()
	n, e := radio.Sum(l)
	if e != api.OK {
		t.Fatal(l, e)
	}
	return n
}

// garbled returns s with so many wrong bytes, at different places.
func garbled(r *rand.Rand, s string, wrong int) string {
	l := []byte(s)
	for _, i := range r.Perm(len(l))[:wrong] {
		l[i] ^= byte(between(r, 1, 255))
	}
	return string(l)
}

// newDisk returns a disk of so many sectors.
func newDisk(t *testing.T, sectors int) *radio.Disk {
	t.Helper()
	d, e := radio.NewDisk(sectors)
	if e != api.OK {
		t.Fatal(sectors, e)
	}
	return d
}

// newBook returns a book with messages, on a disk of so many sectors.
func newBook(t *testing.T, sectors, offices int, l ...api.Entry) (*radio.Disk, *radio.Book) {
	t.Helper()
	d := newDisk(t, sectors)
	b, e := radio.Make(d, offices)
	if e != api.OK {
		t.Fatal(e)
	}
	for _, x := range l {
		if e := b.Add(x); e != api.OK {
			t.Fatal(x, e)
		}
	}
	return d, b
}

// open returns the book on d.
func open(t *testing.T, d *radio.Disk) *radio.Book {
	t.Helper()
	b, e := radio.Open(d)
	if e != api.OK {
		t.Fatal(e)
	}
	return b
}

// content returns what the sectors of d contain.
func content(t *testing.T, d *radio.Disk) []string {
	t.Helper()
	l := make([]string, d.Sectors())
	for i := range l {
		s, e := d.Read(i)
		if e != api.OK || len(s) != 64 {
			t.Fatal(i, s, e)
		}
		l[i] = s
	}
	return l
}

// padded returns s with zeros behind it, 64 bytes together.
func padded(s string) string { return s + strings.Repeat("\x00", 64-len(s)) }

// records returns the sectors of a record, as the chapter says.
func records(payload string) []string {
	n := len(payload)
	length := string([]byte{byte(n % 256), byte(n / 256), 0, 0})
	first := payload[:min(n, 59)]
	l := []string{length + first + strings.Repeat("\x00", 59-len(first)) + "\x01"}
	for rest := payload[len(first):]; len(rest) > 0; {
		k := min(64, len(rest))
		l = append(l, padded(rest[:k]))
		rest = rest[k:]
	}
	return l
}

// messageRecord returns the sectors of the record of a message.
func messageRecord(e api.Entry) []string {
	return records(string([]byte{2, byte(e.Office), byte(e.No)}) + e.Body)
}

// someEntries returns up to most messages of offices and numbers below the given ones; some of them are several times there, with different bodies.
func someEntries(r *rand.Rand, most, offices, numbers int) []api.Entry {
	var l []api.Entry
	for range r.Intn(most + 1) {
		l = append(l, entry(r.Intn(offices), r.Intn(numbers), strings.Repeat(pick(r, []string{"a", "b", "c"}), pick(r, []int{0, 1, 2, 56, 57, 130}))))
	}
	return l
}

// least returns of all messages of l with an office and a number the least body, and whether there is one.
func least(l []api.Entry, office, no int) (string, bool) {
	body, is := "", false
	for _, e := range l {
		if e.Office == office && e.No == no && (!is || e.Body < body) {
			body, is = e.Body, true
		}
	}
	return body, is
}
