package radio_test

import (
	"math"
	"math/rand"
	"strings"
	"testing"

	"snowline/api"
	"snowline/radio"
)

// times tells from the definition what the product of two elements is: that of polynomials, modulo x^8 + x^4 + x^3 + x^2 + 1.
func times(a, b int) int {
	out := 0
	for i := range 8 {
		if b>>i&1 == 1 {
			out ^= a << i
		}
	}
	for i := 15; i >= 8; i-- {
		if out>>i&1 == 1 {
			out ^= 0b100011101 << (i - 8)
		}
	}
	return out
}

// power tells from the definition what a^j is.
func power(a, j int) int {
	out := 1
	for range j {
		out = times(out, a)
	}
	return out
}

// isCodeWord tells from the definition whether s is a code word.
func isCodeWord(s string) bool {
	for j := range 6 {
		value := 0
		for i := range len(s) {
			value ^= times(int(s[i]), power(power(2, j), len(s)-1-i))
		}
		if value != 0 {
			return false
		}
	}
	return true
}

// P9.1, with the chapter's examples.
func TestTimes(t *testing.T) {
	for _, x := range [][3]int{{2, 128, 29}, {3, 7, 9}, {0, 0, 0}, {0, 255, 0}, {255, 1, 255}, {2, 142, 1}} {
		if n, e := radio.Times(x[0], x[1]); n != x[2] || e != api.OK {
			t.Error(x, n, e)
		}
	}
	for a := range 256 {
		for b := range 256 {
			if n, e := radio.Times(a, b); n != times(a, b) || e != api.OK {
				t.Fatal(a, b, n, e)
			}
		}
	}
	for _, a := range []int{-1, 256, 257, -255, 512, math.MaxInt, math.MinInt} {
		for _, b := range []int{0, 1, 255, -1, 256} {
			if n, e := radio.Times(a, b); n != 0 || e != api.ErrArg {
				t.Error(a, b, n, e)
			}
			if n, e := radio.Times(b, a); n != 0 || e != api.ErrArg {
				t.Error(b, a, n, e)
			}
		}
	}
}

// P9.1 and P9.6, with the chapter's example.
func TestInverse(t *testing.T) {
	if n, e := radio.Inverse(2); n != 142 || e != api.OK {
		t.Error(n, e)
	}
	for a := 1; a < 256; a++ {
		if n, e := radio.Inverse(a); n < 1 || n > 255 || times(a, n) != 1 || e != api.OK {
			t.Error(a, n, e)
		}
	}
	for _, a := range []int{0, -1, 256, 258, -254, math.MaxInt, math.MinInt} {
		if n, e := radio.Inverse(a); n != 0 || e != api.ErrArg {
			t.Error(a, n, e)
		}
	}
}

// P9.6
func TestLawsOfField(t *testing.T) {
	var table [256][256]uint8
	for a := range table {
		for b := range table[a] {
			n, e := radio.Times(a, b)
			if e != api.OK || n < 0 || n > 255 {
				t.Fatal(a, b, n, e)
			}
			table[a][b] = uint8(n)
		}
	}
	for a := range table {
		if int(table[1][a]) != a {
			t.Fatal(a)
		}
		inverses := 0
		for b := range table {
			if table[a][b] == 1 {
				inverses++
			}
			if table[a][b] != table[b][a] {
				t.Fatal(a, b)
			}
			for c := range table {
				if table[table[a][b]][c] != table[a][table[b][c]] || table[a][b^c] != table[a][b]^table[a][c] {
					t.Fatal(a, b, c)
				}
			}
		}
		if (inverses == 1) != (a > 0) {
			t.Fatal(a, inverses)
		}
	}
}

// P9.1, with the chapter's examples.
func TestChecks(t *testing.T) {
	zeros := strings.Repeat("\x00", 6)
	one := string([]byte{63, 1, 218, 32, 227, 38})
	for s, want := range map[string]string{"": zeros, "\x00": zeros, strings.Repeat("\x00", 249): zeros, "\x01": one, "\x00\x01": one} {
		if c, e := radio.Checks(s); c != want || e != api.OK {
			t.Errorf("%q: %q %d", s, c, e)
		}
	}
	r := rand.New(rand.NewSource(91))
	for n := range 250 {
		s := someBytes(r, n)
		c, e := radio.Checks(s)
		if len(c) != 6 || e != api.OK || !isCodeWord(s+c) {
			t.Fatalf("%q: %q %d", s, c, e)
		}
	}
	for _, n := range []int{250, 251, 255, 256, 505, 1 << 20} {
		if c, e := radio.Checks(strings.Repeat("\x00", n)); c != "" || e != api.ErrLimit {
			t.Errorf("%d: %q %d", n, c, e)
		}
	}
}

// P9.1
func TestApart(t *testing.T) {
	for _, x := range []struct {
		a, b string
		n    int
		is   bool
	}{
		{"", "", 0, true}, {"a", "", 0, false}, {"", "a", 0, false}, {"snow", "snow", 0, true}, {"snow", "show", 1, true}, {"snow", "wons", 4, true}, {"snow", "snows", 0, false}, {"xsnow", "snow", 0, false},
		{"\x00", "\x80", 1, true}, {"\xff\xfe", "\xfe\xff", 2, true}, {"é", "è", 1, true}, {"é", "e", 0, false}, {strings.Repeat("a", 1000), strings.Repeat("b", 1000), 1000, true},
	} {
		if n, is := radio.Apart(x.a, x.b); n != x.n || is != x.is {
			t.Errorf("%q %q: %d %v", x.a, x.b, n, is)
		}
	}
}
