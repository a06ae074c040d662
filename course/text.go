package course

import (
	"strconv"
	"strings"

	"snowline/api"
)

// headWords is how many words of the text of a sheet come ahead of its stakes.
const headWords = 9

// PrintTest returns the text of t, a line without its end.
func PrintTest(t api.Test) (string, api.Errno) {
	if e := CheckTest(t); e != api.OK {
		return "", e
	}
	return "test " + joined(" ", t.Day, t.Known, t.Lo, t.Hi), api.OK
}

// ParseTest returns the test with the text s.
func ParseTest(s string) (api.Test, api.Errno) {
	var x [4]int
	rest, is := strings.CutPrefix(s, "test ")
	if !is || !readNumbers(x[:], strings.SplitN(rest, " ", len(x)+1)) {
		return api.Test{}, api.ErrParse
	}
	t := api.Test{Day: x[0], Known: x[1], Lo: x[2], Hi: x[3]}
	// A number can be written in other ways than its own one: only the text of t is one.
	if text, e := PrintTest(t); e != api.OK || text != s {
		return api.Test{}, api.ErrParse
	}
	return t, api.OK
}

// PrintSheet returns the text of s, a line without its end.
func PrintSheet(s api.Sheet) (string, api.Errno) {
	if e := CheckSheet(s); e != api.OK {
		return "", e
	}
	words := []string{"sheet", joined(" ", s.No, s.Cell, s.Day, s.Known, s.Scale, s.Mouth, s.Empty, s.EmptyDay)}
	for _, x := range s.Stakes {
		n := stakeNumbers(x)
		words = append(words, joined("/", n[:]...))
	}
	return strings.Join(words, " "), api.OK
}

// ParseSheet returns the sheet with the text s.
func ParseSheet(s string) (api.Sheet, api.Errno) {
	// The text of a valid sheet has no more words: what is behind them need not be split.
	words := strings.SplitN(s, " ", headWords+api.MaxStakes+1)
	if len(words) < headWords {
		return api.Sheet{}, api.ErrParse
	}
	var x [headWords - 1]int
	if !readNumbers(x[:], words[1:headWords]) {
		return api.Sheet{}, api.ErrParse
	}
	stakes, is := readStakes(words[headWords:])
	if !is {
		return api.Sheet{}, api.ErrParse
	}
	t := api.Sheet{No: x[0], Cell: x[1], Day: x[2], Known: x[3], Scale: x[4], Mouth: x[5], Empty: x[6], EmptyDay: x[7], Stakes: stakes}
	if text, e := PrintSheet(t); e != api.OK || text != s {
		return api.Sheet{}, api.ErrParse
	}
	return t, api.OK
}

func readStakes(words []string) ([]api.Stake, bool) {
	var l []api.Stake
	for _, w := range words {
		var n [5]int
		if !readNumbers(n[:], strings.SplitN(w, "/", len(n)+1)) {
			return nil, false
		}
		l = append(l, stakeOf(n))
	}
	return l, true
}

// stakeNumbers returns the numbers of x in the order of its text.
func stakeNumbers(x api.Stake) [5]int {
	return [5]int{x.Depth, x.Core, x.Full, x.Lost, x.Soil}
}

// stakeOf returns the stake with these numbers, in the order of its text.
func stakeOf(n [5]int) api.Stake {
	return api.Stake{Depth: n[0], Core: n[1], Full: n[2], Lost: n[3], Soil: n[4]}
}

// readNumbers reads the numbers that words stand for, and reports whether there are as many as asked for.
func readNumbers(into []int, words []string) bool {
	if len(words) != len(into) {
		return false
	}
	for i, w := range words {
		x, err := strconv.Atoi(w)
		if err != nil {
			return false
		}
		into[i] = x
	}
	return true
}

// joined returns the numbers in decimal, with a word between any two of them.
func joined(between string, l ...int) string {
	words := make([]string, len(l))
	for i, x := range l {
		words[i] = strconv.Itoa(x)
	}
	return strings.Join(words, between)
}
