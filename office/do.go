package office

import (
	"strconv"
	"strings"

	"snowline/api"
	"snowline/radio"
	"snowline/share"
)

// Do executes a command and returns what it prints.
func (y *Model) Do(line string) (string, api.Errno) {
	command, is := readCommand(line)
	if !is {
		return "", api.ErrCommand
	}
	if !y.isPossible(command) {
		return "", api.ErrNotNow
	}
	return y.carryOut(command)
}

// isPossible reports whether a command is possible now.
func (y *Model) isPossible(command any) bool {
	switch x := command.(type) {
	case begin:
		return y.Offices() == 0
	case write:
		return y.areOpen(x.office)
	case send:
		return x.from != x.to && y.areOpen(x.from, x.to)
	case crash:
		return y.areOpen(x.office)
	case reopen:
		return y.has(x.office)
	case tell:
		return y.areOpen(x.office)
	case question:
		return y.areOpen(x.offices...)
	}
	return y.Offices() > 0
}

// carryOut does a command that is possible.
func (y *Model) carryOut(command any) (string, api.Errno) {
	switch x := command.(type) {
	case begin:
		return "", y.begin(x.offices)
	case wait:
		return number(y.wait(x.days))
	case write:
		return y.write(x.office, x.form)
	case send:
		return number(y.send(x.from, x.to, x.noise))
	case sendAll:
		return number(y.sendAll())
	case crash:
		y.desks[x.office].disk.Arm(x.calls)
	case reopen:
		return "", y.reopen(x.office, x.keep)
	case tell:
		return printed(y.tell(x.office, x.about))
	case question:
		return x.answer(y)
	}
	return "", api.OK
}

// begin makes the offices, with new disks and books.
func (y *Model) begin(offices int) api.Errno {
	var desks []desk
	for range offices {
		disk, e := radio.NewDisk(sectors)
		if e != api.OK {
			return e
		}
		book, e := radio.Make(disk, offices)
		if e != api.OK {
			return e
		}
		desks = append(desks, desk{disk: disk, book: book, today: map[subject]findings{}})
	}
	y.desks = desks
	return api.OK
}

// wait lets days pass, and returns the day then.
func (y *Model) wait(days int) (int, api.Errno) {
	if y.day+days > api.MaxDay {
		return 0, api.ErrArg
	}
	y.day += days
	for _, d := range y.desks {
		clear(d.today)
	}
	return y.day, api.OK
}

// write adds a message of an office to its book, and returns the office and the number of the message.
func (y *Model) write(office int, form string) (string, api.Errno) {
	d := &y.desks[office]
	no := d.book.Tally().Have[office]
	e := d.book.Add(api.Entry{Office: office, No: no, Body: strconv.Itoa(y.day) + " " + form})
	if e != api.OK {
		d.leaveBook(e)
		return "", e
	}
	return strconv.Itoa(office) + "." + strconv.Itoa(no), api.OK
}

// leaveBook closes the book of d if a call of it has returned ErrDown.
func (d *desk) leaveBook(e api.Errno) {
	if e == api.ErrDown {
		d.book = nil
	}
}

// send sends what the book of an office has and that of another one wants, with noise; it returns how many messages the latter has taken.
func (y *Model) send(from, to int, noise string) (int, api.Errno) {
	d := &y.desks[to]
	wanted, e := y.desks[from].book.Wanted(d.book.Tally())
	if e != api.OK {
		return 0, e
	}
	sent, e := encodings(wanted)
	if e != api.OK {
		return 0, e
	}
	var come []string
	for i, s := range sent {
		come = append(come, garbled(s, noise[i%len(noise)])...)
	}
	heard, _, e := radio.Heard(come)
	if e != api.OK {
		return 0, e
	}
	n, e := d.book.Take(heard)
	d.leaveBook(e)
	return n, e
}

// encodings returns the encodings of the frames of messages.
func encodings(l []api.Entry) ([]string, api.Errno) {
	var out []string
	for _, entry := range l {
		frames, e := radio.Split(entry)
		if e != api.OK {
			return nil, e
		}
		for _, f := range frames {
			s, e := radio.Encode(f)
			if e != api.OK {
				return nil, e
			}
			out = append(out, s)
		}
	}
	return out, api.OK
}

// garbled returns what comes of an encoding, by a digit of noise.
func garbled(s string, digit byte) []string {
	switch digit {
	case '9':
		return nil
	case '8':
		return []string{s, s}
	case '1', '2', '3', '4':
		l := []byte(s)
		for i := range int(digit - '0') {
			l[3*i] = ^l[3*i]
		}
		return []string{string(l)}
	}
	return []string{s}
}

// sendAll sends without noise between all open books, until nothing new comes; it returns how many messages were taken.
func (y *Model) sendAll() (int, api.Errno) {
	sum := 0
	for {
		n, e := y.sendRound()
		if e != api.OK {
			return 0, e
		}
		if n == 0 {
			return sum, api.OK
		}
		sum += n
	}
}

// sendRound sends once from each open book to each other one.
func (y *Model) sendRound() (int, api.Errno) {
	sum := 0
	for from := range y.desks {
		for to := range y.desks {
			if from == to || !y.areOpen(from, to) {
				continue
			}
			n, e := y.send(from, to, "0")
			if e != api.OK {
				return 0, e
			}
			sum += n
		}
	}
	return sum, api.OK
}

// reopen turns on the power of the disk of an office, and opens its book.
func (y *Model) reopen(office int, keep string) api.Errno {
	kept := []byte(keep)
	for i := range kept {
		kept[i] = 8 * (kept[i] - '0')
	}
	d := &y.desks[office]
	d.disk.Restart(string(kept))
	book, e := radio.Open(d.disk)
	d.book = book
	return e
}

// promise returns what is promised to each right of the share of an office.
func (y *Model) promise(office int) (string, api.Errno) {
	s, e := y.Share(office)
	if e != api.OK {
		return "", e
	}
	volumes, e := share.Promise(s)
	if e != api.OK {
		return "", e
	}
	lines := make([]string, len(volumes))
	for i, volume := range volumes {
		lines[i] = strconv.Itoa(s.Rights[i].No) + " " + strconv.Itoa(volume)
	}
	return strings.Join(lines, "\n"), api.OK
}

// printed returns the output of a bulletin that was told.
func printed(b api.Bulletin, e api.Errno) (string, api.Errno) {
	out, e := ends(api.Span{Lo: b.Lo, Hi: b.Hi}, e)
	if e != api.OK {
		return "", e
	}
	words := []string{out}
	if b.Anew {
		words = append(words, "anew")
	}
	for _, no := range b.Named {
		words = append(words, strconv.Itoa(no))
	}
	return strings.Join(words, " "), api.OK
}
