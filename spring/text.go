package spring

import (
	"strconv"
	"strings"

	"snowline/api"
)

// PrintWeather returns the text of w, a line without its end.
func PrintWeather(w api.Weather) (string, api.Errno) {
	if !isDay(w.Day) || !isTemp(w.Temp) || !isIn(w.Rain, 0, api.MaxRain) {
		return "", api.ErrWeather
	}
	return "weather " + strconv.Itoa(w.Day) + " " + strconv.Itoa(w.Temp) + " " + strconv.Itoa(w.Rain), api.OK
}

// ParseWeather returns the weather with the text s.
func ParseWeather(s string) (api.Weather, api.Errno) {
	var x [3]int
	// The text of a weather has no more words: what is behind them need not be split.
	words := strings.SplitN(s, " ", len(x)+2)
	if len(words) != len(x)+1 {
		return api.Weather{}, api.ErrParse
	}
	for i := range x {
		number, is := number(words[i+1])
		if !is {
			return api.Weather{}, api.ErrParse
		}
		x[i] = number
	}
	w := api.Weather{Day: x[0], Temp: x[1], Rain: x[2]}
	// Other texts are read as w as well: only one of them is its own.
	if text, e := PrintWeather(w); e != api.OK || text != s {
		return api.Weather{}, api.ErrParse
	}
	return w, api.OK
}

// number returns what a word of digits, with or without a minus sign ahead, stands for, and whether it is one with a size that a number of a weather can have.
func number(word string) (int, bool) {
	digits, isBelow := strings.CutPrefix(word, "-")
	x := 0
	for _, r := range digits {
		if r < '0' || r > '9' {
			return 0, false
		}
		x = 10*x + int(r-'0')
		if x > api.MaxDay {
			return 0, false
		}
	}
	if isBelow {
		x = -x
	}
	return x, true
}
