package radio

// flaw is a wrong byte: its place, and by what it differs from the right one.
type flaw struct {
	place int
	by    byte
}

// flaws returns the places, at most two, in which a code word differs from s, and whether there is such a code word.
func flaws(s string) ([]flaw, bool) {
	v := values(s)
	if v == [checkBytes]byte{} {
		return nil, true
	}
	points := placePoints(len(s))
	if x, is := oneFlaw(v[:], points); is {
		return []flaw{x}, true
	}
	return twoFlaws(v, points)
}

// placePoints returns for each place of a word of n bytes by which factor a flaw there grows from each value of the word to the next one.
func placePoints(n int) []byte {
	out := make([]byte, n)
	point := byte(1)
	for i := n - 1; i >= 0; i-- {
		out[i] = point
		point = twice(point)
	}
	return out
}

// oneFlaw returns the flaw that alone makes the values v, and whether there is one.
func oneFlaw(v, points []byte) (flaw, bool) {
	for i, point := range points {
		if v[0] != 0 && growsBy(v, point) {
			return flaw{i, v[0]}, true
		}
	}
	return flaw{}, false
}

// growsBy reports whether each element of v is that before it times a point.
func growsBy(v []byte, point byte) bool {
	for i := 1; i < len(v); i++ {
		if v[i] != product(v[i-1], point) {
			return false
		}
	}
	return true
}

// twoFlaws returns the two flaws that together make the values v, and whether there are such.
func twoFlaws(v [checkBytes]byte, points []byte) ([]flaw, bool) {
	for i, point := range points {
		// A flaw at this place leaves nothing here, another one still grows by its own factor.
		var left [checkBytes - 1]byte
		for j := range left {
			left[j] = v[j+1] ^ product(v[j], point)
		}
		x, is := oneFlaw(left[:], points)
		if is && x.place != i {
			x.by = product(x.by, inverse(points[x.place]^point))
			return []flaw{{i, v[0] ^ x.by}, x}, true
		}
	}
	return nil, false
}
