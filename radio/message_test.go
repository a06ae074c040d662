package radio_test

import (
	"cmp"
	"hash/fnv"
	"math"
	"math/rand"
	"slices"
	"strings"
	"testing"

	"snowline/api"
	"snowline/radio"
)

// P9.3
func TestCheckEntry(t *testing.T) {
	for _, e := range []api.Entry{{}, entry(7, 63, strings.Repeat("s", 1024)), entry(0, 0, "\x00"), entry(0, 0, "\xff\xfe")} {
		if err := radio.CheckEntry(e); err != api.OK {
			t.Error(e, err)
		}
	}
	for i, e := range []api.Entry{{Office: -1}, {Office: 8}, {No: -1}, {No: 64}, {Body: strings.Repeat("s", 1025)}, {Office: 256}, {No: 256}, {Office: math.MaxInt}, {No: math.MinInt}, {Body: strings.Repeat("s", 1<<20)}} {
		if err := radio.CheckEntry(e); err != api.ErrEntry {
			t.Error(i, err)
		}
		if l, err := radio.Split(e); len(l) != 0 || err != api.ErrEntry {
			t.Error(i, l, err)
		}
		if n, err := radio.Sum([]api.Entry{{}, e}); n != 0 || err != api.ErrEntry {
			t.Error(i, n, err)
		}
	}
}

// P9.3, with the chapter's example of 33 bytes.
func TestSplit(t *testing.T) {
	r := rand.New(rand.NewSource(93))
	for n := range 1025 {
		e := entry(r.Intn(8), r.Intn(64), someBytes(r, n))
		l := split(t, e)
		if want := max(1, int(math.Ceil(float64(n)/32))); len(l) != want {
			t.Fatal(n, len(l))
		}
		rest := e.Body
		for i, f := range l {
			k := min(32, len(rest))
			if f != (api.Frame{Office: e.Office, No: e.No, Part: i, Parts: len(l), Body: rest[:k]}) || radio.CheckFrame(f) != api.OK {
				t.Fatal(n, i, f)
			}
			rest = rest[k:]
		}
		if rest != "" {
			t.Fatal(n, rest)
		}
	}
}

// bodyOf tells from the chapter the body of the message that frames of one office and number give, and whether they give any.
func bodyOf(l []api.Frame) (string, bool) {
	var found []string
	for parts := 1; parts <= 32; parts++ {
		whole, is := "", true
		for part := range parts {
			var bodies []string
			for _, f := range l {
				if f.Parts == parts && f.Part == part {
					bodies = append(bodies, f.Body)
				}
			}
			if is = is && len(bodies) > 0; is {
				whole += slices.Min(bodies)
			}
		}
		if is {
			found = append(found, whole)
		}
	}
	if len(found) == 0 {
		return "", false
	}
	return slices.Min(found), true
}

// of returns the frames of l with an office and a number.
func of(l []api.Frame, office, no int) []api.Frame {
	isOther := func(f api.Frame) bool { return f.Office != office || f.No != no }
	return slices.DeleteFunc(slices.Clone(l), isOther)
}

// gathered tells from the chapter what the messages of frames are.
func gathered(l []api.Frame) []api.Entry {
	var out []api.Entry
	for office := range 8 {
		for no := range 64 {
			come := of(l, office, no)
			if len(come) == 0 {
				continue
			}
			if body, is := bodyOf(come); is {
				out = append(out, entry(office, no, body))
			}
		}
	}
	return out
}

// lacking tells from the chapter which parts are lacking.
func lacking(l []api.Frame, office, no int) ([]int, bool) {
	come := of(l, office, no)
	if len(come) == 0 {
		return nil, false
	}
	if _, is := bodyOf(come); is {
		return nil, true
	}
	parts := 32
	has := map[[2]int]bool{}
	for _, f := range come {
		parts = min(parts, f.Parts)
		has[[2]int{f.Parts, f.Part}] = true
	}
	var out []int
	for part := range parts {
		if !has[[2]int{parts, part}] {
			out = append(out, part)
		}
	}
	return out, true
}

// P9.3: several parts and bodies of one message.
func TestGather(t *testing.T) {
	a, b := strings.Repeat("a", 32), strings.Repeat("b", 32)
	part := func(part, parts int, body string) api.Frame {
		return api.Frame{Office: 1, No: 2, Part: part, Parts: parts, Body: body}
	}
	for i, x := range []struct {
		l     []api.Frame
		want  []string
		lacks []int
		has   bool
	}{
		{nil, nil, nil, false}, {[]api.Frame{part(1, 2, "c")}, nil, []int{0}, true}, {[]api.Frame{part(0, 2, a)}, nil, []int{1}, true}, {[]api.Frame{part(0, 1, "")}, []string{""}, nil, true},
		{[]api.Frame{part(1, 2, "c"), part(0, 2, a)}, []string{a + "c"}, nil, true}, {[]api.Frame{part(1, 2, "c"), part(0, 2, b), part(0, 2, a), part(1, 2, "ca")}, []string{a + "c"}, nil, true},
		{[]api.Frame{part(0, 3, a), part(1, 2, "c"), part(2, 3, "c")}, nil, []int{0}, true}, {[]api.Frame{part(0, 3, a), part(2, 3, "c")}, nil, []int{1}, true}, {[]api.Frame{part(31, 32, "c")}, nil, []int{0, 1, 2, 3, 4, 5, 6, 7, 8, 9, 10, 11, 12, 13, 14, 15, 16, 17, 18, 19, 20, 21, 22, 23, 24, 25, 26, 27, 28, 29, 30}, true},
		{[]api.Frame{part(0, 2, b), part(1, 2, "b"), part(0, 3, a), part(1, 3, b), part(2, 3, "c")}, []string{a + b + "c"}, nil, true}, {[]api.Frame{part(0, 1, a), part(0, 2, a), part(1, 2, "c")}, []string{a}, nil, true},
		{[]api.Frame{part(0, 1, ""), part(0, 1, "a")}, []string{""}, nil, true}, {[]api.Frame{part(0, 1, "b"), part(0, 1, "a\xff"), part(0, 1, "\xff")}, []string{"a\xff"}, nil, true}, {[]api.Frame{part(0, 2, a), part(0, 3, a), part(1, 3, b), part(2, 3, "c")}, []string{a + b + "c"}, nil, true},
	} {
		var want []api.Entry
		for _, body := range x.want {
			want = append(want, entry(1, 2, body))
		}
		given := slices.Clone(x.l)
		if l, e := radio.Gather(x.l); !slices.Equal(l, want) || e != api.OK {
			t.Error(i, l, e)
		}
		if l, has, e := radio.Lacking(x.l, 1, 2); !slices.Equal(l, x.lacks) || has != x.has || e != api.OK {
			t.Error(i, l, has, e)
		}
		if l, has, e := radio.Lacking(x.l, 2, 1); len(l) != 0 || has || e != api.OK {
			t.Error(i, l, has, e)
		}
		if !slices.Equal(given, x.l) {
			t.Error(i, x.l)
		}
	}
}

// P9.3
func TestGatherByTrying(t *testing.T) {
	r := rand.New(rand.NewSource(932))
	whole, lacks := 0, 0
	for range 2000 {
		var l []api.Frame
		for range r.Intn(14) {
			f := api.Frame{Office: r.Intn(2), No: r.Intn(2), Parts: between(r, 1, 3)}
			f.Part = r.Intn(f.Parts)
			f.Body = strings.Repeat(pick(r, []string{"a", "b"}), between(r, 1, 3))
			if f.Part < f.Parts-1 {
				f.Body = strings.Repeat(pick(r, []string{"a", "b"}), 32)
			}
			l = append(l, f)
		}
		want := gathered(l)
		whole += len(want)
		if x, e := radio.Gather(l); !slices.Equal(x, want) || e != api.OK {
			t.Fatal(l, x, e)
		}
		for office := range 3 {
			for no := range 3 {
				parts, has := lacking(l, office, no)
				lacks += len(parts)
				if x, is, e := radio.Lacking(l, office, no); !slices.Equal(x, parts) || is != has || e != api.OK {
					t.Fatal(l, office, no, x, is, e)
				}
			}
		}
	}
	if whole < 500 || lacks < 500 {
		t.Error(whole, lacks)
	}
}

// P9.3: what is too much comes ahead of what is not valid, and this ahead of the message that is asked for.
func TestErrorsOfFrames(t *testing.T) {
	good := make([]api.Frame, 4097)
	for i := range good {
		good[i].Parts = 1
	}
	bad := slices.Clone(good)
	bad[4095] = api.Frame{}
	for i, x := range []struct {
		l          []api.Frame
		office, no int
		gather     api.Errno
		lacking    api.Errno
	}{
		{good[:4096], 0, 0, api.OK, api.OK}, {good, 0, 0, api.ErrLimit, api.ErrLimit}, {bad, -1, 0, api.ErrLimit, api.ErrLimit}, {bad[:4096], 0, 0, api.ErrFrame, api.ErrFrame}, {bad[:4096], -1, 0, api.ErrFrame, api.ErrFrame},
		{nil, -1, 0, api.OK, api.ErrArg}, {nil, 8, 0, api.OK, api.ErrArg}, {nil, 0, -1, api.OK, api.ErrArg}, {nil, 0, 64, api.OK, api.ErrArg}, {good[:1], 8, 64, api.OK, api.ErrArg}, {nil, 7, 63, api.OK, api.OK}, {nil, math.MaxInt, math.MinInt, api.OK, api.ErrArg},
	} {
		if l, e := radio.Gather(x.l); e != x.gather || e != api.OK && len(l) != 0 {
			t.Error(i, l, e)
		}
		if l, is, e := radio.Lacking(x.l, x.office, x.no); e != x.lacking || e != api.OK && (len(l) != 0 || is) {
			t.Error(i, l, is, e)
		}
	}
}

// P9.3: what can be read is gathered, what cannot is counted.
func TestHeard(t *testing.T) {
	r := rand.New(rand.NewSource(933))
	if l, n, e := radio.Heard(nil); len(l) != 0 || n != 0 || e != api.OK {
		t.Error(l, n, e)
	}
	if l, n, e := radio.Heard(make([]string, 4096)); len(l) != 0 || n != 4096 || e != api.OK {
		t.Error(l, n, e)
	}
	if l, n, e := radio.Heard(make([]string, 4097)); len(l) != 0 || n != 0 || e != api.ErrLimit {
		t.Error(l, n, e)
	}
	for range 300 {
		var strings []string
		var frames []api.Frame
		bad := 0
		for _, x := range someEntries(r, 8, 3, 3) {
			for _, f := range split(t, x) {
				wrong := r.Intn(5)
				strings = append(strings, garbled(r, encoded(t, f), wrong))
				if wrong > 2 {
					bad++
				} else {
					frames = append(frames, f)
				}
			}
		}
		if l, n, e := radio.Heard(strings); !slices.Equal(l, gathered(frames)) || n != bad || e != api.OK {
			t.Fatal(frames, l, n, e)
		}
	}
}

// P9.3: against the library's function with the same numbers.
func TestSum(t *testing.T) {
	if n := sum(t); n != 14695981039346656037 {
		t.Error(n)
	}
	r := rand.New(rand.NewSource(934))
	for _, size := range []int{0, 1, 255, 256, 257, 512, 1023, 1024} {
		h := fnv.New64a()
		var l []api.Entry
		for range between(r, 1, 4) {
			e := entry(r.Intn(8), r.Intn(64), someBytes(r, size))
			l = append(l, e)
			h.Write([]byte{byte(e.Office), byte(e.No), byte(size), byte(size >> 8)})
			h.Write([]byte(e.Body))
			if n := sum(t, l...); n != h.Sum64() {
				t.Error(size, n)
			}
		}
	}
	if n, e := radio.Sum([]api.Entry{{}, {No: 64}, {}}); n != 0 || e != api.ErrEntry {
		t.Error(n, e)
	}
}

// differentEntries returns messages of different offices or numbers, by these.
func differentEntries(r *rand.Rand) []api.Entry {
	var l []api.Entry
	for office := range 8 {
		for no := range 3 {
			if r.Intn(4) == 0 {
				l = append(l, entry(office, no, someBytes(r, r.Intn(200))))
			}
		}
	}
	return l
}

// P9.8: messages come together from their frames in any order, however often, and what lacks completes them.
func TestAllFramesCome(t *testing.T) {
	r := rand.New(rand.NewSource(98))
	for range 300 {
		entries := differentEntries(r)
		var frames []api.Frame
		for _, e := range entries {
			frames = append(frames, split(t, e)...)
		}
		come := frames
		for range r.Intn(20) {
			if len(frames) > 0 {
				come = append(slices.Clone(come), pick(r, frames))
			}
		}
		if l, e := radio.Gather(shuffled(r, come)); !slices.Equal(l, entries) || e != api.OK {
			t.Fatal(entries, l, e)
		}
		for _, x := range entries {
			own := split(t, x)
			var some []api.Frame
			for _, f := range shuffled(r, come) {
				if f.Office != x.Office || f.No != x.No || f.Part%3 == r.Intn(2) {
					some = append(some, f)
				}
			}
			parts, is, e := radio.Lacking(some, x.Office, x.No)
			if e != api.OK {
				t.Fatal(e)
			}
			if !is {
				continue
			}
			for _, part := range parts {
				if slices.Contains(some, own[part]) {
					t.Fatal(some, x, parts)
				}
				some = append(some, own[part])
			}
			if l, e := radio.Gather(shuffled(r, some)); !slices.Contains(l, x) || e != api.OK {
				t.Fatal(some, x, parts, l, e)
			}
			if parts, is, e := radio.Lacking(some, x.Office, x.No); len(parts) != 0 || !is || e != api.OK {
				t.Fatal(some, x, parts, is, e)
			}
		}
	}
}

// P9.8: one string with two wrong bytes of each frame is enough, if no other one has more than four.
func TestHeardThroughNoise(t *testing.T) {
	r := rand.New(rand.NewSource(982))
	for range 300 {
		entries := differentEntries(r)
		var strings []string
		bad := 0
		for _, e := range entries {
			for _, f := range split(t, e) {
				strings = append(strings, garbled(r, encoded(t, f), r.Intn(3)))
				for range r.Intn(3) {
					wrong := r.Intn(5)
					strings = append(strings, garbled(r, encoded(t, f), wrong))
					if wrong > 2 {
						bad++
					}
				}
			}
		}
		if l, n, e := radio.Heard(shuffled(r, strings)); !slices.Equal(l, entries) || n != bad || e != api.OK {
			t.Fatal(entries, l, n, e)
		}
	}
}

// P9.3: results are ordered by office, then by number, whatever came first.
func TestOrderOfMessages(t *testing.T) {
	r := rand.New(rand.NewSource(983))
	var frames []api.Frame
	for office := range 8 {
		for no := range 64 {
			frames = append(frames, split(t, entry(office, no, "s"))...)
		}
	}
	l, e := radio.Gather(shuffled(r, frames))
	if len(l) != 512 || e != api.OK || !slices.IsSortedFunc(l, func(a, b api.Entry) int { return cmp.Or(cmp.Compare(a.Office, b.Office), cmp.Compare(a.No, b.No)) }) {
		t.Error(len(l), e)
	}
}
