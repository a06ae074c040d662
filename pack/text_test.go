package pack_test

import (
	"math/rand"
	"strings"
	"testing"

	"snowline/api"
	"snowline/pack"
)

// P2.6
func TestStepTexts(t *testing.T) {
	for text, s := range map[string]api.Step{
		"snow 30 5": {Kind: api.SnowS, Much: 30, Cold: 5}, "snow 0 0": {Kind: api.SnowS}, "snow 0 5": {Kind: api.SnowS, Cold: 5}, "snow 65536 65536": {Kind: api.SnowS, Much: 65536, Cold: 65536},
		"rain 0": step(api.RainS, 0), "melt 7": step(api.MeltS, 7), "frost 10": step(api.FrostS, 10), "loss 65536": step(api.LossS, 65536), "blown 2": step(api.BlownS, 2),
	} {
		if x, e := pack.PrintStep(s); x != text || e != api.OK {
			t.Error(x, e)
		}
		if x, e := pack.ParseStep(text); x != s || e != api.OK {
			t.Error(text, x, e)
		}
	}
	for i, s := range []api.Step{{}, step(7, 0), step(-1, 0), step(api.RainS, -1), step(api.RainS, 65537), {Kind: api.RainS, Cold: 1}, {Kind: api.SnowS, Cold: 65537}} {
		if x, e := pack.PrintStep(s); x != "" || e != api.ErrStep {
			t.Error(i, x, e)
		}
	}
}

// P2.6
func TestBadStepTexts(t *testing.T) {
	for _, s := range []string{
		"", " ", "snow", "snow ", "snow 30", "snow 30 ", "snow 30 5 ", "snow 30 5 6", "snow  30 5", "snow 30  5", " snow 30 5", "snow 30 5\n", "snow 30/5", "snow -0 5", "snow 30 05", "snow 30 65537",
		"rain", "rain ", "rain 1 0", "rain 01", "rain +1", "rain -1", "rain 65537", "rain 1 ", " rain 1", "rain 1.0", "rain 1_0", "rain 0x1", "rain ١", "rain 99999999999999999999", "rain\t1",
		"hail 1", "Rain 1", "rains 1", " 1", "1", "1 1", "0 0", "pack", "melt melt",
	} {
		if x, e := pack.ParseStep(s); x != (api.Step{}) || e != api.ErrParse {
			t.Error(s, x, e)
		}
	}
}

// P2.6
func TestPackTexts(t *testing.T) {
	for text, p := range map[string]api.Pack{
		"pack": {}, "pack 40/2/0 100/0/5": a(), "pack 120/3/0 40/0/12": of([3]int{120, 3, 0}, [3]int{40, 0, 12}), "pack 1/0/65536": of([3]int{1, 0, 65536}), "pack 65536/0/0": of([3]int{65536, 0, 0}),
		"pack" + strings.Repeat(" 1024/0/0", 64): high(64, 1024),
	} {
		if x, e := pack.Print(p); x != text || e != api.OK {
			t.Error(x, e)
		}
		if x, e := pack.Parse(text); !same(x, p) || e != api.OK {
			t.Error(text, x, e)
		}
	}
}

// P2.6
func TestBadPackTexts(t *testing.T) {
	for _, s := range []string{
		"", " ", "pack ", " pack", "packs", "Pack", "pack\n", "pack 40/2", "pack 40", "pack 40/2/0/1", "pack 40/2/0/", "pack /40/2/0", "pack 40//0", "pack 40/2/0 ", "pack  40/2/0", " 40/2/0", "40/2/0", "pack 40/2/0\n",
		"pack 40 2 0", "pack 40/3/0", "pack 0/0/0", "pack 40/1/1", "pack 040/2/0", "pack 40/+2/0", "pack 40/2/-0", "pack 40/2/00", "pack -40/0/0", "pack 40/0/-1", "pack 40/0/65537", "pack 65537/0/0", "pack 65536/0/0 1/0/0",
		"pack 99999999999999999999/0/0", "pack 40/0/0 x", "pack 40/0/٠", "pack 40/2/0,100/0/5", "pack 40/2/0\t100/0/5", "rain 1",
		"pack" + strings.Repeat(" 1/0/0", 65), "pack" + strings.Repeat(" 1/0/0", 64) + " ", "pack" + strings.Repeat(" 1/0/0", 9999), strings.Repeat(" ", 1<<16), "pack " + strings.Repeat("/", 1<<16),
	} {
		if x, e := pack.Parse(s); len(x.Layers) != 0 || e != api.ErrParse {
			t.Error(s, x, e)
		}
	}
}

// P2.6: what is printed is parsed as it was.
func TestTextsOfRandom(t *testing.T) {
	eachRandom(func(r *rand.Rand, p api.Pack) {
		text, e := pack.Print(p)
		q, e2 := pack.Parse(text)
		if e != api.OK || e2 != api.OK || !same(p, q) {
			t.Fatal(p, text, e, q, e2)
		}
		s := randomStep(r, allKinds()...)
		text, e = pack.PrintStep(s)
		u, e2 := pack.ParseStep(text)
		if e != api.OK || e2 != api.OK || s != u {
			t.Fatal(s, text, e, u, e2)
		}
	})
}

// garbled returns s with a few bytes changed, left out or put in.
func garbled(r *rand.Rand, s string) string {
	const bytes = " -/0123456789snowpack"
	l := []byte(s)
	for range 1 + r.Intn(2) {
		at, with := r.Intn(len(l)), bytes[r.Intn(len(bytes))]
		switch r.Intn(3) {
		case 0:
			l[at] = with
		case 1:
			l = append(l[:at], l[at+1:]...)
		default:
			l = append(l[:at], append([]byte{with}, l[at:]...)...)
		}
	}
	return string(l)
}

// P2.6: whatever is parsed is printed as it was.
func TestTextsAreInverse(t *testing.T) {
	r := rand.New(rand.NewSource(4))
	parsed := 0
	for range 20000 {
		s := garbled(r, []string{"snow 30 5", "melt 7", "pack 40/2/0 100/0/5"}[r.Intn(3)])
		if x, e := pack.ParseStep(s); e == api.OK {
			parsed++
			if y, e := pack.PrintStep(x); e != api.OK || y != s {
				t.Fatal(s, y, e)
			}
		}
		if x, e := pack.Parse(s); e == api.OK {
			parsed++
			if y, e := pack.Print(x); e != api.OK || y != s {
				t.Fatal(s, y, e)
			}
		}
	}
	if parsed < 1000 {
		t.Error(parsed)
	}
}
