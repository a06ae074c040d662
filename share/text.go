package share

import (
	"strconv"
	"strings"

	"snowline/api"
)

// Print returns the text of e, a line without its end.
func Print(e api.Event) (string, api.Errno) {
	if e := CheckEvent(e); e != api.OK {
		return "", e
	}
	numbers := []int{e.No, e.Known, e.Day, e.Right}
	switch e.Kind {
	case api.GrantE:
		numbers = append(numbers, e.Holder, e.Valley, e.From, e.To, e.Claim)
	case api.PassE:
		numbers = append(numbers, e.Holder)
	}
	text := kindWord(e.Kind)
	for _, x := range numbers {
		text += " " + strconv.Itoa(x)
	}
	return text, api.OK
}

// Parse returns the event with the text s.
func Parse(s string) (api.Event, api.Errno) {
	var x [9]int
	// The text of an event has no more words: what is behind them need not be split.
	words := strings.SplitN(s, " ", len(x)+2)
	if len(words) > len(x)+1 {
		return api.Event{}, api.ErrParse
	}
	for i, word := range words[1:] {
		number, err := strconv.Atoi(word)
		if err != nil {
			return api.Event{}, api.ErrParse
		}
		x[i] = number
	}
	out := api.Event{Kind: wordKind(words[0]), No: x[0], Known: x[1], Day: x[2], Right: x[3], Holder: x[4], Valley: x[5], From: x[6], To: x[7], Claim: x[8]}
	// Other texts, with more or fewer numbers too, are read as the event as well: only one of them is its own.
	if text, e := Print(out); e != api.OK || text != s {
		return api.Event{}, api.ErrParse
	}
	return out, api.OK
}

// kindWord returns the word of a kind of events, or "" if there is none.
func kindWord(kind int) string {
	switch kind {
	case api.GrantE:
		return "grant"
	case api.PassE:
		return "pass"
	case api.HoldE:
		return "hold"
	case api.FreeE:
		return "free"
	case api.EndE:
		return "end"
	}
	return ""
}

// wordKind returns the kind of events with a word, or 0 if there is none.
func wordKind(word string) int {
	for kind := api.GrantE; kind <= api.EndE; kind++ {
		if kindWord(kind) == word {
			return kind
		}
	}
	return 0
}
