package crew

import (
	"strconv"
	"strings"

	"snowline/api"
)

// PrintTrack returns the text of t, a line without its end.
func PrintTrack(t api.Track) (string, api.Errno) {
	if !isTrack(t) {
		return "", api.ErrRange
	}
	text := "track"
	for _, x := range [...]int{t.No, t.A, t.B, t.Minutes, t.Cell, t.Steep} {
		text += " " + strconv.Itoa(x)
	}
	return text, api.OK
}

// ParseTrack returns the track with the text s.
func ParseTrack(s string) (api.Track, api.Errno) {
	var x [6]int
	// The text of a track has no more words: what is behind them need not be split.
	words := strings.SplitN(s, " ", len(x)+2)
	if len(words) != len(x)+1 {
		return api.Track{}, api.ErrParse
	}
	for i, word := range words[1:] {
		number, err := strconv.Atoi(word)
		if err != nil {
			return api.Track{}, api.ErrParse
		}
		x[i] = number
	}
	t := api.Track{No: x[0], A: x[1], B: x[2], Minutes: x[3], Cell: x[4], Steep: x[5]}
	// Other texts are read as t as well: only one of them is its own.
	if text, e := PrintTrack(t); e != api.OK || text != s {
		return api.Track{}, api.ErrParse
	}
	return t, api.OK
}
