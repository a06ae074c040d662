package pillow

import (
	"cmp"
	"slices"

	"snowline/api"
)

// isEmpty reports whether there is no integer in s.
func isEmpty(s api.Span) bool { return s.Lo > s.Hi }

// meet returns what is both in a and in b; it can be empty.
func meet(a, b api.Span) api.Span { return api.Span{Lo: max(a.Lo, b.Lo), Hi: min(a.Hi, b.Hi)} }

// plus returns the sums of an integer in a and one in b.
func plus(a, b api.Span) api.Span { return api.Span{Lo: a.Lo + b.Lo, Hi: a.Hi + b.Hi} }

// minus returns the differences of an integer in a less one in b.
func minus(a, b api.Span) api.Span { return api.Span{Lo: a.Lo - b.Hi, Hi: a.Hi - b.Lo} }

func contains(s api.Span, x int) bool { return s.Lo <= x && x <= s.Hi }

// union returns all that is in some spans, none of which is empty, as spans in increasing order that do not touch.
func union(l []api.Span) []api.Span {
	slices.SortFunc(l, func(a, b api.Span) int { return cmp.Compare(a.Lo, b.Lo) })
	var out []api.Span
	for _, s := range l {
		last := len(out) - 1
		if last < 0 || s.Lo > out[last].Hi+1 {
			out = append(out, s)
			continue
		}
		out[last].Hi = max(out[last].Hi, s.Hi)
	}
	return out
}
