// Package course works out how much water was measured along a course, whatever the scale did. See shared/doc/01-course.md.
package course

import "snowline/api"

// asOf is a day on which something is asked.
type asOf int

// knows reports whether what is known from a day is known by then.
func (d asOf) knows(known int) bool { return known <= int(d) }

func isDay(x int) bool { return 0 <= x && x <= api.MaxDay }

func isNo(x int) bool { return 0 <= x && x <= api.MaxNo }

// isDrift reports whether x can be a drift at all.
func isDrift(x int) bool { return -api.MaxGram <= x && x <= api.MaxGram }

// isWeight reports whether a scale can show x.
func isWeight(x int) bool { return 0 <= x && x <= api.MaxGram }

// increasing reports whether l is strictly increasing, from 0 to most.
func increasing(l []int, most int) bool {
	above := -1
	for _, x := range l {
		if x <= above || x > most {
			return false
		}
		above = x
	}
	return true
}

// ends returns the least and the greatest one of some numbers.
func ends(first int, more ...int) api.Span {
	s := api.Span{Lo: first, Hi: first}
	for _, x := range more {
		if x < s.Lo {
			s.Lo = x
		}
		if x > s.Hi {
			s.Hi = x
		}
	}
	return s
}
