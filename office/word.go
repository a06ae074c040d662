package office

import (
	"math"
	"slices"
	"strconv"
	"strings"

	"snowline/api"
)

const (
	mostWords  = 80   // more than any line or body has
	mostDigits = 1000 // of a noise, or of what a disk keeps
)

// lookUp returns what a table has for the pattern that words fit, the numbers among them, and whether there is one.
func lookUp[V any](table map[string]V, words []string) (V, []int, bool) {
	for pattern, v := range table {
		if x, is := fit(strings.Split(pattern, " "), words); is {
			return v, x, true
		}
	}
	var none V
	return none, nil, false
}

// fit returns the numbers of words that fit a pattern, and whether they do. The first word of a pattern stands for itself, each other one is the name of a number, or of several ones with / between them; DIGITS stands for a word of digits, FORM for all words of a form, and .. says that the one ahead of it can come again.
func fit(pattern, words []string) ([]int, bool) {
	if len(words) < max(1, len(pattern)-1) || words[0] != pattern[0] {
		return nil, false
	}
	last := len(pattern) - 1
	switch pattern[last] {
	case "FORM":
		if _, is := readForm(words[last:], 0); !is {
			return nil, false
		}
		pattern, words = pattern[:last], words[:last]
	case "..":
		pattern = slices.Concat(pattern[:last], slices.Repeat(pattern[last-1:last], len(words)-last))
	}
	if len(words) != len(pattern) {
		return nil, false
	}
	var x []int
	for i, name := range pattern[1:] {
		l, is := readWord(name, words[1+i])
		if !is {
			return nil, false
		}
		x = append(x, l...)
	}
	return x, true
}

// readWord returns the numbers of a word, and whether it is one as its name says.
func readWord(name, word string) ([]int, bool) {
	if name == "DIGITS" {
		return nil, areDigits(word)
	}
	names := strings.Split(name, "/")
	parts := strings.SplitN(word, "/", len(names)+1)
	if len(parts) != len(names) {
		return nil, false
	}
	var x []int
	for i, part := range parts {
		number, is := readNumber(part, rangeOf(names[i]))
		if !is {
			return nil, false
		}
		x = append(x, number)
	}
	return x, true
}

// readNumber returns the number of a word, and whether it is one of a range.
func readNumber(word string, span api.Span) (int, bool) {
	x, err := strconv.Atoi(word)
	// A number can be written in other ways than its own one: only that is its word.
	return x, err == nil && strconv.Itoa(x) == word && isIn(x, span.Lo, span.Hi)
}

// rangeOf returns the range of the numbers with a name.
func rangeOf(name string) api.Span {
	switch name {
	case "P", "Q":
		return api.Span{Lo: 0, Hi: api.MaxOffices - 1}
	case "OFFICES":
		return api.Span{Lo: 1, Hi: api.MaxOffices}
	case "DAYS":
		return api.Span{Lo: 1, Hi: 100000}
	case "CALLS":
		return api.Span{Lo: 1, Hi: 1000}
	case "NO", "CELL", "VALLEY", "SCALE", "PILLOW", "A", "B":
		return api.Span{Lo: 0, Hi: api.MaxNo}
	case "DAY", "DATE":
		return api.Span{Lo: 0, Hi: api.MaxDay}
	case "GAIN", "SLACK", "DEEP", "WEIGHT":
		return api.Span{Lo: 0, Hi: api.MaxWater}
	case "ROOM":
		return api.Span{Lo: 0, Hi: api.MaxVolume}
	}
	// The layer whose value it is examines it.
	return api.Span{Lo: math.MinInt, Hi: math.MaxInt}
}

// areDigits reports whether a word has nothing but digits, and not too many.
func areDigits(word string) bool {
	isOther := func(c rune) bool { return c < '0' || c > '9' }
	return isIn(len(word), 1, mostDigits) && strings.IndexFunc(word, isOther) < 0
}

func isIn(x, least, greatest int) bool { return least <= x && x <= greatest }
