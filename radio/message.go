package radio

import (
	"cmp"
	"slices"
	"strings"

	"snowline/api"
)

// mostHeard is how many frames, or strings, can be looked at together.
const mostHeard = 4096

// CheckEntry returns ErrEntry unless e is valid.
func CheckEntry(e api.Entry) api.Errno {
	if !isOffice(e.Office) || !isNo(e.No) || len(e.Body) > api.MaxBody {
		return api.ErrEntry
	}
	return api.OK
}

// Split returns the frames of a message.
func Split(e api.Entry) ([]api.Frame, api.Errno) {
	if err := CheckEntry(e); err != api.OK {
		return nil, err
	}
	l := make([]api.Frame, max(1, (len(e.Body)+api.MaxPart-1)/api.MaxPart))
	for i := range l {
		from := i * api.MaxPart
		to := min(from+api.MaxPart, len(e.Body))
		l[i] = api.Frame{Office: e.Office, No: e.No, Part: i, Parts: len(l), Body: e.Body[from:to]}
	}
	return l, api.OK
}

// Gather returns the messages whose frames have all come, in whatever order and however often.
func Gather(l []api.Frame) ([]api.Entry, api.Errno) {
	if e := checkFrames(l); e != api.OK {
		return nil, e
	}
	return gather(l), api.OK
}

// Lacking returns which parts of a message have not come, and whether any has.
func Lacking(l []api.Frame, office, no int) ([]int, bool, api.Errno) {
	if e := checkFrames(l); e != api.OK {
		return nil, false, e
	}
	if !isOffice(office) || !isNo(no) {
		return nil, false, api.ErrArg
	}
	isOther := func(f api.Frame) bool { return f.Office != office || f.No != no }
	come := slices.DeleteFunc(slices.Clone(l), isOther)
	if len(come) == 0 || len(gather(come)) > 0 {
		return nil, len(come) > 0, api.OK
	}
	byParts := func(a, b api.Frame) int { return cmp.Compare(a.Parts, b.Parts) }
	parts := slices.MinFunc(come, byParts).Parts
	var out []int
	for part := range parts {
		if !slices.ContainsFunc(come, func(f api.Frame) bool { return f.Parts == parts && f.Part == part }) {
			out = append(out, part)
		}
	}
	return out, true, api.OK
}

// Heard returns the messages that can be put together from what was heard, and how many strings could not be read.
func Heard(l []string) ([]api.Entry, int, api.Errno) {
	if len(l) > mostHeard {
		return nil, 0, api.ErrLimit
	}
	var frames []api.Frame
	garbled := 0
	for _, s := range l {
		if f, _, e := Decode(s); e == api.OK {
			frames = append(frames, f)
		} else {
			garbled++
		}
	}
	return gather(frames), garbled, api.OK
}

// Sum returns the sum of messages.
func Sum(l []api.Entry) (uint64, api.Errno) {
	for _, e := range l {
		if err := CheckEntry(e); err != api.OK {
			return 0, err
		}
	}
	return sum(l), api.OK
}

// sum returns the sum of valid messages.
func sum(l []api.Entry) uint64 {
	out := uint64(14695981039346656037)
	for _, e := range l {
		n := len(e.Body)
		s := string([]byte{byte(e.Office), byte(e.No), byte(n % 256), byte(n / 256)}) + e.Body
		for i := range len(s) {
			out = (out ^ uint64(s[i])) * 1099511628211
		}
	}
	return out
}

// checkFrames returns ErrLimit if l has too many frames; then ErrFrame unless all of them are valid.
func checkFrames(l []api.Frame) api.Errno {
	if len(l) > mostHeard {
		return api.ErrLimit
	}
	for _, f := range l {
		if e := CheckFrame(f); e != api.OK {
			return e
		}
	}
	return api.OK
}

// gather returns the messages of valid frames.
func gather(l []api.Frame) []api.Entry {
	l = slices.Clone(l)
	slices.SortFunc(l, func(a, b api.Frame) int { return cmp.Or(compareParts(a, b), cmp.Compare(a.Body, b.Body)) })
	// Of each part only the least body is left.
	l = slices.CompactFunc(l, func(a, b api.Frame) bool { return compareParts(a, b) == 0 })
	var out []api.Entry
	for len(l) > 0 {
		n := 1
		for n < len(l) && isBeside(l[0], l[n]) {
			n++
		}
		if n == l[0].Parts {
			out = append(out, joined(l[:n]))
		}
		l = l[n:]
	}
	return leastOfEach(out)
}

// compareParts compares frames by what they are parts of, then by the part.
func compareParts(a, b api.Frame) int {
	return cmp.Or(cmp.Compare(a.Office, b.Office), cmp.Compare(a.No, b.No), cmp.Compare(a.Parts, b.Parts), cmp.Compare(a.Part, b.Part))
}

// isBeside reports whether two frames can be of the same message.
func isBeside(a, b api.Frame) bool {
	return a.Office == b.Office && a.No == b.No && a.Parts == b.Parts
}

// joined returns the message with the frames l, which are all of it, in order.
func joined(l []api.Frame) api.Entry {
	var body strings.Builder
	for _, f := range l {
		body.WriteString(f.Body)
	}
	return api.Entry{Office: l[0].Office, No: l[0].No, Body: body.String()}
}

// leastOfEach returns l by Office, then by No; of several messages with the same ones, that with the least Body.
func leastOfEach(l []api.Entry) []api.Entry {
	byPlace := func(a, b api.Entry) int {
		return cmp.Or(cmp.Compare(a.Office, b.Office), cmp.Compare(a.No, b.No))
	}
	l = slices.Clone(l)
	slices.SortFunc(l, func(a, b api.Entry) int { return cmp.Or(byPlace(a, b), cmp.Compare(a.Body, b.Body)) })
	return slices.CompactFunc(l, func(a, b api.Entry) bool { return byPlace(a, b) == 0 })
}
