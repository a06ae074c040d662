package office_test

import (
	"fmt"
	"math/rand"
	"slices"
	"strconv"
	"strings"
	"testing"

	"snowline/api"
	"snowline/basin"
	"snowline/office"
	"snowline/radio"
	"snowline/share"
)

// player plays a model, and keeps in plain lists what it should know.
type player struct {
	t       *testing.T
	r       *rand.Rand
	y       *office.Model
	day     int
	books   [][][]string  // of each office, the bodies by office and number
	pending [][]api.Entry // what was about to be put into its book when the power went off
	isOpen  []bool
	written []int // how many messages it has written with OK
	told    [][]api.Bulletin
	bases   [][]basis
}

// newPlayer returns a player of a model that has begun.
func newPlayer(t *testing.T, r *rand.Rand, offices int) *player {
	p := &player{t: t, r: r, y: begun(t, "begin "+strconv.Itoa(offices))}
	p.books = make([][][]string, offices)
	for i := range p.books {
		p.books[i] = make([][]string, offices)
	}
	p.pending = make([][]api.Entry, offices)
	p.isOpen = slices.Repeat([]bool{true}, offices)
	p.written = make([]int, offices)
	p.told = make([][]api.Bulletin, offices)
	p.bases = make([][]basis, offices)
	return p
}

// naive returns what an office should make of its book.
func (p *player) naive(office int) naive { return naiveOf(p.books[office], p.day) }

// wait lets days pass.
func (p *player) wait(days int) {
	p.day += days
	want(p.t, p.y, fmt.Sprint("day ", days), strconv.Itoa(p.day))
}

// write has an office write a form.
func (p *player) write(office int, form string) {
	no := len(p.books[office][office])
	body := fmt.Sprint(p.day, " ", form)
	if p.isOpen[office] && no == api.MaxEntries {
		fails(p.t, p.y, fmt.Sprintf("write %d %s", office, form), api.ErrEntry)
		return
	}
	p.answers(office, fmt.Sprintf("write %d %s", office, form), fmt.Sprintf("%d.%d", office, no), []api.Entry{{Office: office, No: no, Body: body}})
	if p.isOpen[office] {
		p.written[office] = no + 1
	}
}

// answers does a command by which messages come into the book of an office, unless its power goes off.
func (p *player) answers(office int, line, out string, come []api.Entry) {
	p.t.Helper()
	if !p.isOpen[office] {
		fails(p.t, p.y, line, api.ErrNotNow)
		return
	}
	s, e := p.y.Do(line)
	switch {
	case e == api.OK && s == out:
		for _, m := range come {
			p.put(office, m)
		}
	case e == api.ErrDown && s == "":
		p.pending[office] = come
		p.isOpen[office] = false
	default:
		p.t.Fatalf("%s: %q, error %d, not %q", line, s, e, out)
	}
}

// put puts a message into the book of an office.
func (p *player) put(office int, m api.Entry) {
	l := &p.books[office][m.Office]
	if m.No < len(*l) {
		(*l)[m.No] = m.Body
	} else {
		*l = append(*l, m.Body)
	}
}

// send sends from an office to another one with noise.
func (p *player) send(from, to int, noise string) {
	line := fmt.Sprintf("send %d %d %s", from, to, noise)
	if !p.isOpen[from] {
		fails(p.t, p.y, line, api.ErrNotNow)
		return
	}
	come := p.comes(from, to, noise)
	p.answers(to, line, strconv.Itoa(len(come)), come)
}

// comes returns which messages the book of an office takes from another one.
func (p *player) comes(from, to int, noise string) []api.Entry {
	frame := 0
	var out []api.Entry
	for office, bodies := range p.books[from] {
		have := p.books[to][office]
		first := 0
		if len(have) <= len(bodies) && slices.Equal(have, bodies[:len(have)]) {
			first = len(have)
		}
		next := len(have)
		for no, body := range bodies[first:] {
			no += first
			isHeard := true
			for range (len(body) + 31) / 32 {
				// Two bytes of a frame that are wrong are corrected, more are not.
				isHeard = isHeard && !strings.Contains("349", noise[frame%len(noise):][:1])
				frame++
			}
			if isHeard && (no == next || no < next && body < have[no]) {
				out = append(out, api.Entry{Office: office, No: no, Body: body})
				next = max(next, no+1)
			}
		}
	}
	return out
}

// reopen opens the book of an office.
func (p *player) reopen(office int, keep string) {
	want(p.t, p.y, fmt.Sprint("open ", office, " ", keep), "")
	p.isOpen[office] = true
	tally, e := p.y.Tally(office)
	if e != api.OK {
		p.t.Fatal(e)
	}
	// A message whose record was about to be written may have come into the book.
	for len(p.pending[office]) > 0 && !slices.Equal(p.tally(office).Sums, tally.Sums) {
		p.put(office, p.pending[office][0])
		p.pending[office] = p.pending[office][1:]
	}
	p.pending[office] = nil
	if fmt.Sprint(p.tally(office)) != fmt.Sprint(tally) {
		p.t.Fatal(tally)
	}
	if have := len(p.books[office][office]); have < p.written[office] {
		p.t.Fatalf("office %d has written %d messages, and %d are left", office, p.written[office], have)
	}
}

// tally returns what Tally should be.
func (p *player) tally(office int) api.Tally {
	var out api.Tally
	for o, bodies := range p.books[office] {
		var l []api.Entry
		for no, body := range bodies {
			l = append(l, api.Entry{Office: o, No: no, Body: body})
		}
		sum, _ := radio.Sum(l)
		out.Have, out.Sums = append(out.Have, len(l)), append(out.Sums, sum)
	}
	return out
}

// tell has an office tell a bulletin.
func (p *player) tell(office, valley, date int) {
	line := fmt.Sprintf("tell %d %d %d", office, valley, date)
	if !p.isOpen[office] {
		fails(p.t, p.y, line, api.ErrNotNow)
		return
	}
	n := p.naive(office)
	x, e := n.volume(valley, n.day, date)
	if e != api.OK {
		fails(p.t, p.y, line, e)
		return
	}
	now := n.basis(valley)
	b := api.Bulletin{No: len(p.told[office]), Day: p.day, Valley: valley, Date: date, Lo: x.Lo, Hi: x.Hi, Rests: now.rests}
	out := fmt.Sprint(x.Lo, " ", x.Hi)
	for i, then := range slices.Backward(p.told[office]) {
		if then.Day != b.Day || then.Valley != valley || then.Date != date {
			continue
		}
		b.Named, b.Anew = now.after(p.bases[office][i])
		if b.Anew {
			out += " anew"
		}
		for _, no := range b.Named {
			out += fmt.Sprint(" ", no)
		}
		if !b.Anew && len(b.Named) == 0 && (b.Lo < then.Lo || b.Hi > then.Hi) {
			p.t.Error(b, "is wider than", then)
		}
		break
	}
	want(p.t, p.y, line, out)
	p.told[office] = append(p.told[office], b)
	p.bases[office] = append(p.bases[office], now)
}

// same reports an error unless a method returned what it should.
func same(t *testing.T, what string, got, should any, e, eShould api.Errno) {
	t.Helper()
	if fmt.Sprint(got) != fmt.Sprint(should) || e != eShould {
		t.Errorf("%s: %v, error %d, not %v, error %d", what, got, e, should, eShould)
	}
}

// compare compares all that an office tells with what it should tell.
func (p *player) compare(office int) {
	p.t.Helper()
	if !p.isOpen[office] {
		for what, e := range closedErrors(p.y, office) {
			if e != api.ErrNotNow {
				p.t.Error(what, e)
			}
		}
		return
	}
	n := p.naive(office)
	p.compareLists(office, n)
	scenes, e := p.y.Scenes(office)
	scenesN, eN := n.scenes()
	same(p.t, "Scenes", scenes, scenesN, e, eN)
	for range 2 {
		cell, day := between(p.r, 1, 4), pick(p.r, n.days()...)
		x, e := p.y.Cell(office, cell, day)
		xN, eN := n.cell(cell, day)
		same(p.t, "Cell", x, xN, e, eN)
		valley, date := between(p.r, 5, 6), p.day+p.r.Intn(4)
		x, e = p.y.Volume(office, valley, date)
		xN, eN = n.volume(valley, p.day, date)
		same(p.t, "Volume", x, xN, e, eN)
	}
	open, e := p.y.Open(office)
	openN, eN := n.open()
	same(p.t, "Open", open, openN, e, eN)
	s, e := p.y.Share(office)
	sN, eN := n.share(p.told[office])
	same(p.t, "Share", s, sN, e, eN)
	if e == api.OK {
		volumes, e := share.Promise(s)
		if is, e2 := share.Enough(s, volumes); e != api.OK || e2 != api.OK || !is {
			p.t.Error("what is promised cannot be taken", s, volumes)
		}
	}
	p.compareAccused(office, n)
}

// compareLists compares the lists that an office makes of its book.
func (p *player) compareLists(office int, n naive) {
	p.t.Helper()
	y := p.y
	scales, e := y.Scales(office)
	same(p.t, "Scales", scales, n.scales(), e, api.OK)
	sheets, e := y.Sheets(office)
	same(p.t, "Sheets", sheets, n.standing(), e, api.OK)
	pillows, e := y.Pillows(office)
	same(p.t, "Pillows", pillows, n.pillows(), e, api.OK)
	b, e := y.Basin(office)
	if len(n.of("cell")) == 0 {
		same(p.t, "Basin", b, api.Basin{}, e, api.ErrNone)
	} else {
		same(p.t, "Basin", b, n.basin(), e, api.OK)
	}
	c, e := y.Climate(office)
	cN, is := n.climate()
	eN := api.OK
	if !is {
		eN = api.ErrNone
	}
	same(p.t, "Climate", c, cN, e, eN)
	log, e := y.Log(office)
	same(p.t, "Log", log, n.log(), e, api.OK)
	springs, e := y.Springs(office)
	same(p.t, "Springs", springs, n.springs(), e, api.OK)
	register, e := y.Register(office)
	same(p.t, "Register", register, n.register(), e, api.OK)
	region, e := y.Range(office)
	same(p.t, "Range", region, n.region(), e, api.OK)
	refused, e := y.Refused(office)
	same(p.t, "Refused", refused, n.refused, e, api.OK)
	tally, e := y.Tally(office)
	same(p.t, "Tally", tally, p.tally(office), e, api.OK)
	told, e := y.Told(office)
	same(p.t, "Told", told, p.told[office], e, api.OK)
}

// compareAccused checks what Accused returns.
func (p *player) compareAccused(office int, n naive) {
	p.t.Helper()
	l, is, e := p.y.Accused(office)
	if _, eN := n.scenes(); eN != api.OK {
		same(p.t, "Accused", l, []int{}, e, eN)
		return
	}
	s, _ := n.bare()
	_, eN := basin.Greatest(s)
	same(p.t, "Accused", is, eN == api.ErrClash, e, api.OK)
	if is && basin.CheckClash(s, l) != api.OK || !is && len(l) > 0 {
		p.t.Error("Accused", l, is)
	}
}

// agree returns whether two offices should agree.
func (p *player) agree(a, b int) bool {
	text := func(office int) string {
		n := p.naive(office)
		var sheets, springs []said
		sheets = n.of("course")
		springs = n.byNo("spring")
		c, is := n.climate()
		return fmt.Sprint(n.scales(), sheets, n.byNo("withdraw"), n.basin(), n.cellsOf(5), n.cellsOf(6), n.cellsOf(7), c, is, n.log(), springs, n.pillows(), n.register(), n.ponds(), n.region())
	}
	return text(a) == text(b)
}

// closedErrors returns the errors of all methods, by their names, for an office.
func closedErrors(y *office.Model, o int) map[string]api.Errno {
	out := map[string]api.Errno{}
	_, out["Scales"] = y.Scales(o)
	_, out["Sheets"] = y.Sheets(o)
	_, out["Pillows"] = y.Pillows(o)
	_, out["Basin"] = y.Basin(o)
	_, out["Climate"] = y.Climate(o)
	_, out["Log"] = y.Log(o)
	_, out["Springs"] = y.Springs(o)
	_, out["Register"] = y.Register(o)
	_, out["Range"] = y.Range(o)
	_, out["Refused"] = y.Refused(o)
	_, out["Tally"] = y.Tally(o)
	_, out["Scenes"] = y.Scenes(o)
	_, out["Cell"] = y.Cell(o, 1, 1)
	_, out["Volume"] = y.Volume(o, 1, 1)
	_, out["Told"] = y.Told(o)
	_, _, out["Accused"] = y.Accused(o)
	_, out["Open"] = y.Open(o)
	_, out["Share"] = y.Share(o)
	_, out["Agree"] = y.Agree(o, 0)
	_, out["Agree with"] = y.Agree(0, o)
	return out
}
