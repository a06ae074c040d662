package radio

import "snowline/api"

// checkBytes is how many check bytes a word has: it is a code word if its values at 2^0 .. 2^5 are all 0.
const checkBytes = 6

// mostChecked is how many bytes can be followed by check bytes.
const mostChecked = 255 - checkBytes

// generator is the product of all x - 2^i for i from 0 to 5, without its first coefficient, which is 1.
var generator = [checkBytes]byte{63, 1, 218, 32, 227, 38}

// Times returns the product of two elements of the field of the code.
func Times(a, b int) (int, api.Errno) {
	if !isElement(a) || !isElement(b) {
		return 0, api.ErrArg
	}
	return int(product(byte(a), byte(b))), api.OK
}

// Inverse returns the element whose product with a is 1.
func Inverse(a int) (int, api.Errno) {
	if !isElement(a) || a == 0 {
		return 0, api.ErrArg
	}
	return int(inverse(byte(a))), api.OK
}

// Checks returns the check bytes of s.
func Checks(s string) (string, api.Errno) {
	if len(s) > mostChecked {
		return "", api.ErrLimit
	}
	return checks(s), api.OK
}

// Apart returns in how many places two strings differ, and whether they are equally long.
func Apart(a, b string) (int, bool) {
	if len(a) != len(b) {
		return 0, false
	}
	n := 0
	for i := range len(a) {
		if a[i] != b[i] {
			n++
		}
	}
	return n, true
}

func isElement(x int) bool { return isIn(x, 0, 255) }

// twice returns the product of 2 and a.
func twice(a byte) byte {
	if a < 128 {
		return a << 1
	}
	return a<<1 ^ 29 // x^8 is x^4 + x^3 + x^2 + 1
}

func product(a, b byte) byte {
	var out byte
	for ; b > 0; b >>= 1 {
		if b&1 == 1 {
			out ^= a
		}
		a = twice(a)
	}
	return out
}

// inverse returns the inverse of a, which is not 0: the product of 254 factors a, as that of 255 is always 1.
func inverse(a byte) byte {
	out := a
	for range 253 {
		out = product(out, a)
	}
	return out
}

// checks returns the check bytes of s: what remains of it, with six zeros behind it, modulo the generator.
func checks(s string) string {
	var rest [checkBytes]byte
	for i := range len(s) {
		first := rest[0] ^ s[i]
		copy(rest[:], rest[1:])
		rest[checkBytes-1] = 0
		for j, x := range generator {
			rest[j] ^= product(first, x)
		}
	}
	return string(rest[:])
}

// values returns the values of s at 2^0 .. 2^5.
func values(s string) [checkBytes]byte {
	var out [checkBytes]byte
	for i := range len(s) {
		point := byte(1)
		for j := range out {
			out[j] = product(out[j], point) ^ s[i]
			point = twice(point)
		}
	}
	return out
}
