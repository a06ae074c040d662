package pillow

import (
	"strconv"
	"strings"

	"snowline/api"
)

// headWords is how many words of the text of a pillow come ahead of its log.
const headWords = 7

// Print returns the text of p, a line without its end.
func Print(p api.Pillow) (string, api.Errno) {
	if e := Check(p); e != api.OK {
		return "", e
	}
	words := []string{"pillow"}
	for _, x := range [...]int{p.No, p.Cell, p.Noise, p.Slab, p.Jump, p.Faults} {
		words = append(words, strconv.Itoa(x))
	}
	for _, s := range p.Log {
		words = append(words, strconv.Itoa(s.Day)+"="+strconv.Itoa(s.Weight))
	}
	return strings.Join(words, " "), api.OK
}

// Parse returns the pillow with the text s.
func Parse(s string) (api.Pillow, api.Errno) {
	// The text of a valid pillow has no more words: what is behind them need not be split.
	words := strings.SplitN(s, " ", headWords+api.MaxLog+1)
	if len(words) < headWords {
		return api.Pillow{}, api.ErrParse
	}
	x, is := numbers(words[1:headWords])
	if !is {
		return api.Pillow{}, api.ErrParse
	}
	p := api.Pillow{No: x[0], Cell: x[1], Noise: x[2], Slab: x[3], Jump: x[4], Faults: x[5]}
	for _, w := range words[headWords:] {
		x, is := numbers(strings.SplitN(w, "=", 3))
		if !is || len(x) != 2 {
			return api.Pillow{}, api.ErrParse
		}
		p.Log = append(p.Log, api.Shown{Day: x[0], Weight: x[1]})
	}
	// Other texts are read as p as well: only one of them is its own.
	if text, e := Print(p); e != api.OK || text != s {
		return api.Pillow{}, api.ErrParse
	}
	return p, api.OK
}

// numbers returns what words stand for, and whether all of them are numbers.
func numbers(words []string) ([]int, bool) {
	l := make([]int, len(words))
	for i, w := range words {
		x, err := strconv.Atoi(w)
		if err != nil {
			return nil, false
		}
		l[i] = x
	}
	return l, true
}
