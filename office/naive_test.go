package office_test

import (
	"fmt"
	"maps"
	"slices"
	"strconv"
	"strings"

	"snowline/api"
	"snowline/basin"
	"snowline/course"
	"snowline/crew"
	"snowline/pillow"
	"snowline/share"
	"snowline/spring"
)

// said is a form that was written on a day, by the word that tells its kind, and its numbers.
type said struct {
	day  int
	word string
	x    []int
}

// saidOf returns what the body of a message says that means something.
func saidOf(body string) said {
	w := strings.Split(body, " ")
	s := said{word: w[1]}
	s.day, _ = strconv.Atoi(w[0])
	for _, word := range w[2:] {
		for number := range strings.SplitSeq(word, "/") {
			x, _ := strconv.Atoi(number)
			s.x = append(s.x, x)
		}
	}
	return s
}

// naive is what an office makes of its book, as the forms that were not refused, in the order in which they were taken. All else is found by looking through them.
type naive struct {
	day     int
	taken   []said
	refused int
}

// naiveOf returns what an office makes of a book on a day.
func naiveOf(book [][]string, day int) naive {
	type message struct {
		said       said
		office, no int
	}
	var l []message
	for office, bodies := range book {
		for no, body := range bodies {
			l = append(l, message{saidOf(body), office, no})
		}
	}
	slices.SortFunc(l, func(a, b message) int {
		return slices.Compare([]int{a.said.day, a.office, a.no}, []int{b.said.day, b.office, b.no})
	})
	n := naive{day: day}
	for _, m := range l {
		if n.accepts(m.said) {
			n.taken = append(n.taken, m.said)
		} else {
			n.refused++
		}
	}
	return n
}

// of returns what was taken of some kinds.
func (n naive) of(kinds ...string) []said {
	var out []said
	for _, s := range n.taken {
		if slices.Contains(kinds, s.word) {
			out = append(out, s)
		}
	}
	return out
}

// byNo returns what was taken of a kind, by its first number.
func (n naive) byNo(kind string) []said {
	l := n.of(kind)
	slices.SortStableFunc(l, func(a, b said) int { return a.x[0] - b.x[0] })
	return l
}

// has reports whether something of a kind with a number was taken.
func (n naive) has(kind string, no int) bool {
	return slices.ContainsFunc(n.of(kind), func(s said) bool { return s.x[0] == no })
}

// with returns n with one more.
func (n naive) with(s said) naive {
	n.taken = append(slices.Clone(n.taken), s)
	return n
}

func (n naive) accepts(s said) bool {
	room := func(most int) bool { return len(n.of(s.word)) < most && !n.has(s.word, s.x[0]) }
	more := n.with(s)
	climate, hasClimate := n.climate()
	switch s.word {
	case "scale":
		return room(8)
	case "test":
		return n.has("scale", s.x[0]) && course.CheckScale(more.scale(s.x[0])) == api.OK
	case "course":
		return len(n.of("course")) < 64
	case "withdraw":
		return !n.has("withdraw", s.x[0])
	case "laws", "climate":
		return len(n.of(s.word)) == 0
	case "cell":
		return room(12)
	case "pair":
		return n.has("cell", s.x[0]) && n.has("cell", s.x[1]) && basin.CheckBasin(more.basin()) == api.OK
	case "weather":
		return hasClimate && spring.CheckLog(climate, more.log()) == api.OK
	case "spring":
		return hasClimate && room(16) && spring.CheckSpring(climate, springOf(s)) == api.OK
	case "pillow":
		return room(4)
	case "shown":
		i := slices.IndexFunc(more.pillows(), func(p api.Pillow) bool { return p.No == s.x[0] })
		return i >= 0 && pillow.Check(more.pillows()[i]) == api.OK
	case "pond":
		return room(64)
	case "site", "track":
		return crew.CheckRange(more.region()) == api.OK
	}
	return share.Check(more.register()) == api.OK
}

func (n naive) scale(no int) api.Scale {
	s := api.Scale{No: no}
	for _, x := range n.of("scale") {
		if x.x[0] == no {
			s.Rate = x.x[1]
		}
	}
	for _, x := range n.of("test") {
		if x.x[0] == no {
			s.Tests = append(s.Tests, api.Test{Day: x.x[1], Known: x.day, Lo: x.x[2], Hi: x.x[3]})
		}
	}
	return s
}

func (n naive) scales() []api.Scale {
	var out []api.Scale
	for _, x := range n.byNo("scale") {
		out = append(out, n.scale(x.x[0]))
	}
	return out
}

// standing returns the sheets that stand: the last one of each number, unless it is withdrawn.
func (n naive) standing() []api.Sheet {
	last := map[int]api.Sheet{}
	for _, s := range n.of("course") {
		sheet, _ := course.ParseSheet(sheetText(s))
		// The days on which sheets are written never decrease.
		last[sheet.No] = sheet
	}
	var out []api.Sheet
	for _, no := range slices.Sorted(maps.Keys(last)) {
		if !n.has("withdraw", no) {
			out = append(out, last[no])
		}
	}
	return out
}

// sheetText returns the text that package course reads.
func sheetText(s said) string {
	l := []string{"sheet"}
	for i, x := range s.x[:7] {
		if i == 3 {
			l = append(l, strconv.Itoa(s.day))
		}
		l = append(l, strconv.Itoa(x))
	}
	for stake := range slices.Chunk(s.x[7:], 5) {
		l = append(l, strings.Trim(strings.ReplaceAll(fmt.Sprint(stake), " ", "/"), "[]"))
	}
	return words(l...)
}

func (n naive) basin() api.Basin {
	b := api.Basin{Slack: 65536, Deep: 65536}
	for _, s := range n.of("laws") {
		b.Gain, b.Slack, b.Deep = s.x[0], s.x[1], s.x[2]
	}
	index := map[int]int{}
	for i, s := range n.byNo("cell") {
		index[s.x[0]] = i
		b.Cells = append(b.Cells, api.Cell{No: s.x[0], Height: s.x[1], Aspect: s.x[2], Area: s.x[3]})
	}
	for _, s := range n.of("pair") {
		b.Pairs = append(b.Pairs, [2]int{index[s.x[0]], index[s.x[1]]})
	}
	return b
}

// cellsOf returns the cells of a valley.
func (n naive) cellsOf(valley int) []int {
	var out []int
	for _, s := range n.byNo("cell") {
		if s.x[4] == valley {
			out = append(out, s.x[0])
		}
	}
	return out
}

func (n naive) climate() (api.Climate, bool) {
	for _, s := range n.of("climate") {
		x := s.x
		return api.Climate{Base: x[0], Lapse: x[1], Swing: x[2], Wettest: x[3], Coldest: x[4], Warmest: x[5], Factor: api.Span{Lo: x[6], Hi: x[7]}}, true
	}
	return api.Climate{}, false
}

func (n naive) log() []api.Weather {
	var out []api.Weather
	for _, s := range n.byNo("weather") {
		out = append(out, api.Weather{Day: s.x[0], Temp: s.x[1], Rain: s.x[2]})
	}
	return out
}

func springOf(s said) api.Spring {
	out := api.Spring{No: s.x[0]}
	for w := range slices.Chunk(s.x[2:], 2) {
		out.Days = append(out.Days, api.Weather{Day: s.x[1] + len(out.Days), Temp: w[0], Rain: w[1]})
	}
	return out
}

// springs returns the springs that are left.
func (n naive) springs() []api.Spring {
	c, _ := n.climate()
	var out []api.Spring
	for _, s := range n.byNo("spring") {
		if is, e := spring.Fits(c, n.log(), springOf(s)); is && e == api.OK {
			out = append(out, springOf(s))
		}
	}
	return out
}

// todays returns those that begin on the present day.
func (n naive) todays() []api.Spring {
	var out []api.Spring
	for _, s := range n.springs() {
		if s.Days[0].Day == n.day {
			out = append(out, s)
		}
	}
	return out
}

func (n naive) pillows() []api.Pillow {
	var out []api.Pillow
	for _, s := range n.byNo("pillow") {
		x := s.x
		p := api.Pillow{No: x[0], Cell: x[1], Noise: x[2], Slab: x[3], Jump: x[4], Faults: x[5]}
		for _, s := range n.of("shown") {
			if s.x[0] == p.No {
				p.Log = append(p.Log, api.Shown{Day: s.x[1], Weight: s.x[2]})
			}
		}
		out = append(out, p)
	}
	return out
}

func (n naive) register() api.Register {
	kinds := map[string]int{"grant": api.GrantE, "pass": api.PassE, "hold": api.HoldE, "free": api.FreeE, "end": api.EndE}
	var r api.Register
	for i, s := range n.of("grant", "pass", "hold", "free", "end") {
		x := append(slices.Clone(s.x), make([]int, 7)...)
		r.Events = append(r.Events, api.Event{No: i, Known: s.day, Kind: kinds[s.word], Right: x[0], Day: x[1], Holder: x[2], Valley: x[3], From: x[4], To: x[5], Claim: x[6]})
	}
	return r
}

func (n naive) ponds() []api.Pond {
	var out []api.Pond
	for _, s := range n.byNo("pond") {
		out = append(out, api.Pond{Valley: s.x[0], Room: s.x[1]})
	}
	return out
}

func (n naive) region() api.Range {
	var r api.Range
	for _, s := range n.byNo("site") {
		r.Sites = append(r.Sites, api.Site{No: s.x[0], Kind: s.x[1], Cell: s.x[2]})
	}
	for _, s := range n.byNo("track") {
		r.Tracks = append(r.Tracks, api.Track{No: s.x[0], A: s.x[1], B: s.x[2], Minutes: s.x[3], Cell: s.x[4], Steep: s.x[5]})
	}
	return r
}
