package radio_test

import (
	"math"
	"math/rand"
	"strings"
	"testing"

	"snowline/api"
	"snowline/radio"
)

// sampleFrame is a frame whose encoding has 14 bytes.
func sampleFrame() api.Frame { return api.Frame{Office: 1, No: 2, Part: 3, Parts: 4, Body: "snow"} }

// P9.2
func TestValidFrames(t *testing.T) {
	full := strings.Repeat("s", 32)
	for i, f := range []api.Frame{
		{Parts: 1}, {Parts: 1, Body: "s"}, {Parts: 1, Body: full}, {Office: 7, No: 63, Parts: 1}, {Parts: 2, Body: full}, {Part: 1, Parts: 2, Body: "s"}, {Part: 1, Parts: 2, Body: full},
		{Part: 31, Parts: 32, Body: "s"}, {Part: 30, Parts: 32, Body: full}, {Parts: 32, Body: full}, {Parts: 1, Body: "\x00\xff"}, sampleFrame(),
	} {
		if e := radio.CheckFrame(f); e != api.OK {
			t.Error(i, e)
		}
		s, e := radio.Encode(f)
		if want := string([]byte{byte(f.Office), byte(f.No), byte(f.Part), byte(f.Parts)}) + f.Body; e != api.OK || len(s) != len(want)+6 || s[:len(want)] != want || !isCodeWord(s) {
			t.Errorf("%d: %q %d", i, s, e)
		}
		if x, n, e := radio.Decode(s); x != f || n != 0 || e != api.OK {
			t.Error(i, x, n, e)
		}
	}
}

// P9.2, with the chapter's example.
func TestInvalidFrames(t *testing.T) {
	full := strings.Repeat("s", 32)
	for i, f := range []api.Frame{
		{}, {Parts: 2, Body: full[:31]}, {Office: -1, Parts: 1}, {Office: 8, Parts: 1}, {No: -1, Parts: 1}, {No: 64, Parts: 1}, {Parts: -1}, {Part: 1, Parts: 1}, {Part: -1, Parts: 1}, {Parts: 33, Body: full}, {Part: 32, Parts: 33, Body: "s"},
		{Part: 32, Parts: 32, Body: "s"}, {Parts: 1, Body: full + "s"}, {Parts: 2, Body: full + "s"}, {Parts: 2}, {Part: 1, Parts: 2}, {Part: 1, Parts: 2, Body: full + "s"}, {Part: 30, Parts: 32, Body: "s"}, {Part: 2, Parts: 2, Body: "s"},
		{Office: 256, Parts: 1}, {No: 256, Parts: 1}, {Part: 256, Parts: 1}, {Parts: 257}, {Office: math.MaxInt, Parts: 1}, {No: math.MinInt, Parts: 1}, {Part: math.MinInt, Parts: math.MinInt}, {Part: math.MaxInt, Parts: math.MaxInt, Body: "s"}, {Part: -1, Parts: 0},
	} {
		if e := radio.CheckFrame(f); e != api.ErrFrame {
			t.Error(i, e)
		}
		if s, e := radio.Encode(f); s != "" || e != api.ErrFrame {
			t.Errorf("%d: %q %d", i, s, e)
		}
	}
}

// isGarbled reports whether Decode cannot read s.
func isGarbled(t *testing.T, s string) bool {
	t.Helper()
	f, n, e := radio.Decode(s)
	if e != api.OK && (e != api.ErrGarbled || f != api.Frame{} || n != 0) {
		t.Fatal(s, f, n, e)
	}
	return e != api.OK
}

// P9.2: words that no frame has, however near they are to code words.
func TestDecodeOfNoFrames(t *testing.T) {
	r := rand.New(rand.NewSource(92))
	for n := range 10 {
		if !isGarbled(t, strings.Repeat("\x00", n)) || !isGarbled(t, someBytes(r, n)) {
			t.Error(n)
		}
	}
	for _, n := range []int{43, 44, 255, 256, 1 << 20} {
		if !isGarbled(t, strings.Repeat("\x00", n)) {
			t.Error(n)
		}
	}
	for i, word := range []string{
		"\x00\x00\x00\x00", "\x08\x00\x00\x01", "\x00\x40\x00\x01", "\x00\x00\x01\x01", "\x00\x00\x00\x02s", "\x00\x00\x01\x02", "\x00\x00\x00\x02" + strings.Repeat("s", 31), "\x00\x00\x00\x21" + strings.Repeat("s", 32), "\x00\x00\x02\x02s", "\xff\xff\xff\xffs",
	} {
		c, _ := radio.Checks(word)
		for wrong := range 3 {
			if !isGarbled(t, garbled(r, word+c, wrong)) {
				t.Error(i, wrong)
			}
		}
	}
	// This one is too long for a frame, but its beginning is one.
	if s := encoded(t, api.Frame{Parts: 1, Body: strings.Repeat("s", 32)}); !isGarbled(t, s+"\x00") || !isGarbled(t, "\x00"+s) || !isGarbled(t, s[:41]) {
		t.Error(s)
	}
}

// P9.2 and P9.7: against all frames without bodies, those of ten bytes.
func TestDecodeByTrying(t *testing.T) {
	var frames []api.Frame
	var words []string
	for office := range 8 {
		for no := range 64 {
			f := api.Frame{Office: office, No: no, Parts: 1}
			frames = append(frames, f)
			words = append(words, encoded(t, f))
		}
	}
	for i := range words {
		for j := range i {
			if n, is := radio.Apart(words[i], words[j]); n < 7 || !is {
				t.Fatal(frames[i], frames[j], n)
			}
		}
	}
	r := rand.New(rand.NewSource(927))
	read := [3]int{}
	for range 20000 {
		// Words of no frames, near which nothing can be read, come too.
		word := string([]byte{byte(r.Intn(9)), byte(r.Intn(66)), byte(r.Intn(20) / 19), byte(1 + r.Intn(20)/19)})
		c, _ := radio.Checks(word)
		s := garbled(r, word+c, r.Intn(6))
		var want api.Frame
		wrong := -1
		for i, word := range words {
			if n, _ := radio.Apart(word, s); n <= 2 {
				want, wrong = frames[i], n
			}
		}
		if wrong < 0 {
			if !isGarbled(t, s) {
				t.Fatalf("%q", s)
			}
			continue
		}
		read[wrong]++
		if f, n, e := radio.Decode(s); f != want || n != wrong || e != api.OK {
			t.Fatalf("%q: %v %d %d", s, f, n, e)
		}
	}
	if read[0] < 1000 || read[1] < 1000 || read[2] < 1000 {
		t.Error(read)
	}
}

// P9.7: each wrong byte, and each two of them, are corrected, with the chapter's example.
func TestTwoWrongBytes(t *testing.T) {
	r := rand.New(rand.NewSource(97))
	for _, f := range []api.Frame{sampleFrame(), someFrame(r, 10), someFrame(r, 42), someFrame(r, 42), someFrame(r, 27)} {
		s := encoded(t, f)
		for i := range len(s) {
			for j := range i + 1 {
				l := []byte(s)
				l[i] ^= byte(between(r, 1, 255))
				want := 1
				if j < i {
					l[j] ^= byte(between(r, 1, 255))
					want = 2
				}
				if x, n, e := radio.Decode(string(l)); x != f || n != want || e != api.OK {
					t.Fatal(f, i, j, x, n, e)
				}
			}
		}
	}
	s := encoded(t, sampleFrame())
	for by := 1; by < 256; by++ {
		l := []byte(s)
		l[0] ^= byte(by)
		if x, n, e := radio.Decode(string(l)); x != sampleFrame() || n != 1 || e != api.OK {
			t.Fatal(by, x, n, e)
		}
		l[1] ^= byte(by)
		if x, n, e := radio.Decode(string(l)); x != sampleFrame() || n != 2 || e != api.OK {
			t.Fatal(by, x, n, e)
		}
	}
}

// P9.7: frames of all lengths, with so many wrong bytes.
func TestWrongBytes(t *testing.T) {
	r := rand.New(rand.NewSource(973))
	for range 30000 {
		f := someFrame(r, between(r, 10, 42))
		wrong := r.Intn(5)
		s := garbled(r, encoded(t, f), wrong)
		if wrong > 2 {
			if !isGarbled(t, s) {
				t.Fatalf("%v %q", f, s)
			}
			continue
		}
		if x, n, e := radio.Decode(s); x != f || n != wrong || e != api.OK {
			t.Fatalf("%v %q: %v %d %d", f, s, x, n, e)
		}
	}
}

// wordWith returns the word of six bytes that has these values at 2^0 .. 2^5.
func wordWith(values [6]int) string {
	var rows [6][7]int
	for k := range 6 {
		for i := range 6 {
			rows[k][i] = power(power(2, k), 5-i)
		}
		rows[k][6] = values[k]
	}
	for i := range 6 {
		for k := i; rows[i][i] == 0; k++ {
			rows[i], rows[k] = rows[k], rows[i]
		}
		inverse := power(rows[i][i], 254)
		for j, x := range rows[i] {
			rows[i][j] = times(x, inverse)
		}
		for k := range 6 {
			factor := rows[k][i]
			for j := range 7 {
				if k != i {
					rows[k][j] ^= times(factor, rows[i][j])
				}
			}
		}
	}
	var word []byte
	for k := range 6 {
		word = append(word, byte(rows[k][6]))
	}
	return string(word)
}

// P9.2 and P9.7: words that are like those with one or two wrong bytes, but for one of their values; and such to which the same place would have to be wrong twice.
func TestAlmostReadable(t *testing.T) {
	r := rand.New(rand.NewSource(971))
	for range 3000 {
		f := someFrame(r, between(r, 10, 42))
		s := encoded(t, f)
		var values [6]int
		if r.Intn(2) == 0 {
			values[5*r.Intn(2)] = between(r, 1, 255)
			s = garbled(r, s, r.Intn(3))
		} else {
			point, by, odd := power(2, r.Intn(len(s))), r.Intn(256), between(r, 1, 255)
			for k := range values {
				values[k] = times(by^odd*(k%2), power(point, k))
			}
		}
		word := []byte(s)
		for i, x := range []byte(wordWith(values)) {
			word[len(word)-6+i] ^= x
		}
		if !isGarbled(t, string(word)) {
			t.Fatalf("%v %q", f, word)
		}
	}
}

// P9.7: frames that are alike are sent far apart.
func TestFramesAreApart(t *testing.T) {
	r := rand.New(rand.NewSource(977))
	for range 20000 {
		bytes := between(r, 10, 42)
		f, g := someFrame(r, bytes), someFrame(r, bytes)
		if r.Intn(3) > 0 {
			g = f
			if r.Intn(2) == 0 {
				g.Office = r.Intn(8)
			}
			if r.Intn(2) == 0 {
				g.No = r.Intn(64)
			}
			if len(g.Body) > 0 {
				g.Body = garbled(r, g.Body, r.Intn(min(4, 1+len(g.Body))))
			}
		}
		n, is := radio.Apart(encoded(t, f), encoded(t, g))
		if !is || f == g && n != 0 || f != g && n < 7 {
			t.Fatal(f, g, n, is)
		}
	}
}
