package pillow_test

import (
	"math/rand"
	"strconv"
	"strings"
	"testing"

	"snowline/api"
	"snowline/pillow"
)

// P3.6
func TestTexts(t *testing.T) {
	full := api.Pillow{No: 4095, Cell: 4095, Noise: 65536, Slab: 65536, Jump: 65536, Faults: 32}
	words := "pillow 4095 4095 65536 65536 65536 32"
	for day := api.MaxDay - 31; day <= api.MaxDay; day++ {
		full.Log = append(full.Log, api.Shown{Day: day, Weight: 65536})
		words += " " + strconv.Itoa(day) + "=65536"
	}
	for text, p := range map[string]api.Pillow{
		"pillow 0 0 0 0 0 0": {}, "pillow 3 1 5 40 20 1 10=100 11=180": {No: 3, Cell: 1, Noise: 5, Slab: 40, Jump: 20, Faults: 1, Log: logOf(100, 180)}, "pillow 1 2 3 4 5 6": {No: 1, Cell: 2, Noise: 3, Slab: 4, Jump: 5, Faults: 6},
		"pillow 0 0 0 0 0 0 0=0 1048576=65536": {Log: []api.Shown{{}, {Day: api.MaxDay, Weight: 65536}}}, words: full,
	} {
		if x, e := pillow.Print(p); x != text || e != api.OK {
			t.Error(x, e)
		}
		if x, e := pillow.Parse(text); !same(x, p) || e != api.OK {
			t.Error(text, x, e)
		}
	}
	for i, p := range invalid() {
		if x, e := pillow.Print(p); x != "" || e != api.ErrLog {
			t.Error(i, x, e)
		}
	}
}

// P3.6
func TestBadTexts(t *testing.T) {
	const head = "pillow 0 0 0 0 0 0"
	full := head
	for i := range 32 {
		full += " " + strconv.Itoa(i) + "=0"
	}
	if x, e := pillow.Parse(full); len(x.Log) != 32 || e != api.OK {
		t.Error(x, e)
	}
	for _, s := range []string{
		"", " ", "pillow", "pillow ", "pillow 0 0 0 0 0", "pillow 0 0 0 0 0 ", head + " ", " " + head, head + "\n", "Pillow 0 0 0 0 0 0", "pillows 0 0 0 0 0 0", "0 0 0 0 0 0", "pack 0 0 0 0 0 0", "pillow  0 0 0 0 0 0", "pillow 0 0 0 0  0 0", "pillow\t0 0 0 0 0 0",
		"pillow 00 0 0 0 0 0", "pillow 0 -0 0 0 0 0", "pillow 0 0 +1 0 0 0", "pillow 0 0 0 01 0 0", "pillow 0 0 0 0 1_0 0", "pillow 0 0 0 0 0 x", "pillow 0 0 0 0 0 0x1", "pillow ١ 0 0 0 0 0", "pillow 0 0 0 0 0 1.0", "pillow 0 0 0 0 0 =",
		"pillow -1 0 0 0 0 0", "pillow 4096 0 0 0 0 0", "pillow 0 4096 0 0 0 0", "pillow 0 0 65537 0 0 0", "pillow 0 0 0 65537 0 0", "pillow 0 0 0 0 65537 0", "pillow 0 0 0 0 0 33", "pillow 0 0 0 0 0 99999999999999999999", "pillow 0 0 0 0 0 18446744073709551616",
		head + " 2", head + " 2=", head + " =2", head + " =", head + " 2=3=4", head + " 2==3", head + " 2=3=", head + " 02=3", head + " 2=03", head + " 2=+3", head + " 2=-0", head + " 2=-1", head + " -2=1", head + " 2= 3", head + " 2 =3", head + " 2:3", head + " 2=3 ", head + "  2=3", head + " 2=3\n",
		head + " 2=1 2=1", head + " 3=1 2=1", head + " 1048577=0", head + " 1=65537", head + " 1=2 3", head + " 1=2,3=4", head + " 1=٢", head + " 0", head + "=0", full + " 99999=0", full + " ",
		head + strings.Repeat(" 1=1", 9999), strings.Repeat(" ", 1<<16), "pillow " + strings.Repeat("=", 1<<16), head + " " + strings.Repeat("=", 1<<16),
	} {
		if x, e := pillow.Parse(s); !same(x, api.Pillow{}) || e != api.ErrParse {
			t.Error(s, x, e)
		}
	}
}

// P3.6: what is printed is parsed as it was.
func TestTextsOfRandom(t *testing.T) {
	r := rand.New(rand.NewSource(8))
	for range 2000 {
		p, _ := long(r)
		p.No, p.Cell = r.Intn(4096), r.Intn(4096)
		text, e := pillow.Print(p)
		q, e2 := pillow.Parse(text)
		if e != api.OK || e2 != api.OK || !same(p, q) {
			t.Fatal(p, text, e, q, e2)
		}
	}
}

// P3.6: whatever is parsed is printed as it was.
func TestTextsAreInverse(t *testing.T) {
	const bytes = " =-0123456789pilow"
	r := rand.New(rand.NewSource(9))
	parsed := 0
	for range 20000 {
		s := []byte("pillow 3 1 5 40 20 1 10=100 11=180")
		for range 1 + r.Intn(2) {
			at, with := r.Intn(len(s)), bytes[r.Intn(len(bytes))]
			switch r.Intn(3) {
			case 0:
				s[at] = with
			case 1:
				s = append(s[:at], s[at+1:]...)
			default:
				s = append(s[:at], append([]byte{with}, s[at:]...)...)
			}
		}
		p, e := pillow.Parse(string(s))
		if e != api.OK {
			continue
		}
		parsed++
		if text, e := pillow.Print(p); e != api.OK || text != string(s) {
			t.Fatal(string(s), text, e)
		}
	}
	if parsed < 1000 {
		t.Error(parsed)
	}
}
