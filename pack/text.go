package pack

import (
	"strconv"
	"strings"

	"snowline/api"
)

// kinds is the words of the kinds of steps.
var kinds = [...]string{api.SnowS: "snow", api.RainS: "rain", api.MeltS: "melt", api.FrostS: "frost", api.LossS: "loss", api.BlownS: "blown"}

// PrintStep returns the text of s, a line without its end.
func PrintStep(s api.Step) (string, api.Errno) {
	if e := CheckStep(s); e != api.OK {
		return "", e
	}
	text := kinds[s.Kind] + " " + strconv.Itoa(s.Much)
	if s.Kind == api.SnowS {
		text += " " + strconv.Itoa(s.Cold)
	}
	return text, api.OK
}

// ParseStep returns the step with the text s.
func ParseStep(s string) (api.Step, api.Errno) {
	word, rest, _ := strings.Cut(s, " ")
	much, cold, is := strings.Cut(rest, " ")
	if !is {
		cold = "0"
	}
	x, read := numbers(much, cold)
	if !read {
		return api.Step{}, api.ErrParse
	}
	t := api.Step{Kind: kindOf(word), Much: x[0], Cold: x[1]}
	// Other texts are read as t as well: only one of them is its own.
	if text, e := PrintStep(t); e != api.OK || text != s {
		return api.Step{}, api.ErrParse
	}
	return t, api.OK
}

// kindOf returns the kind with a word, 0 if there is none.
func kindOf(word string) int {
	for kind, w := range kinds {
		if w == word {
			return kind
		}
	}
	return 0
}

// Print returns the text of p, a line without its end.
func Print(p api.Pack) (string, api.Errno) {
	if e := Check(p); e != api.OK {
		return "", e
	}
	words := []string{"pack"}
	for _, l := range p.Layers {
		words = append(words, strconv.Itoa(l.Ice)+"/"+strconv.Itoa(l.Wet)+"/"+strconv.Itoa(l.Cold))
	}
	return strings.Join(words, " "), api.OK
}

// Parse returns the pack with the text s.
func Parse(s string) (api.Pack, api.Errno) {
	var p api.Pack
	// The text of a valid pack has no more words: what is behind them need not be split.
	for _, w := range strings.SplitN(s, " ", api.MaxLayers+2)[1:] {
		x, is := numbers(strings.SplitN(w, "/", 4)...)
		if !is || len(x) != 3 {
			return api.Pack{}, api.ErrParse
		}
		p.Layers = append(p.Layers, api.Layer{Ice: x[0], Wet: x[1], Cold: x[2]})
	}
	if text, e := Print(p); e != api.OK || text != s {
		return api.Pack{}, api.ErrParse
	}
	return p, api.OK
}

// numbers returns what words stand for, and whether all of them are numbers.
func numbers(words ...string) ([]int, bool) {
	l := make([]int, len(words))
	for i, w := range words {
		x, err := strconv.Atoi(w)
		if err != nil {
			return nil, false
		}
		l[i] = x
	}
	return l, true
}
