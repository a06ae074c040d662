package office_test

import (
	"fmt"
	"math/rand"
	"strings"
	"testing"
	"time"

	"snowline/api"
)

// someForm returns a form, about few things, so that they often meet.
func someForm(r *rand.Rand, day int) string {
	near := func() int { return max(0, day+between(r, -3, 1)) }
	n := func(least, greatest int) int { return between(r, least, greatest) }
	switch r.Intn(30) {
	case 0:
		return fmt.Sprint("scale ", n(0, 2), " ", n(0, 3))
	case 1, 2:
		least := n(-6, 0)
		return fmt.Sprint("test ", n(0, 2), " ", near(), " ", least, " ", n(0, 6))
	case 3, 4, 5, 6, 7:
		return someSheet(r, day)
	case 8:
		return fmt.Sprint("withdraw ", n(0, 9))
	case 9:
		return fmt.Sprint("laws ", n(0, 40), " ", n(0, 60), " ", pick(r, 300, 500))
	case 10:
		return fmt.Sprint("cell ", n(1, 4), " ", n(8, 20)*100, " ", n(0, 3), " ", n(1, 20), " ", n(5, 6))
	case 11:
		return fmt.Sprint("pair ", n(1, 4), " ", n(1, 4))
	case 12:
		return fmt.Sprint("climate 1000 ", n(0, 6), " ", pick(r, 30, 60), " ", n(0, 20), " -100 150 300 ", n(300, 310))
	case 13, 14:
		return fmt.Sprint("weather ", near(), " ", n(-100, 150), " ", n(0, 10))
	case 15, 16, 17:
		days := make([]string, n(2, 4))
		for i := range days {
			days[i] = fmt.Sprint(pick(r, 20, 50, 70), "/", n(0, 8))
		}
		return fmt.Sprint("spring ", n(0, 9), " ", day+pick(r, 0, 0, 0, 1), " ", strings.Join(days, " "))
	case 18:
		return fmt.Sprint("pillow ", n(0, 4), " ", n(1, 3), " ", n(0, 30), " ", n(0, 30), " ", n(0, 30), " ", n(0, 2))
	case 19, 20, 21, 22:
		return fmt.Sprint("shown ", n(0, 2), " ", near(), " ", n(90, 130))
	case 23, 24:
		return fmt.Sprint("grant ", n(0, 3), " ", near(), " ", n(1, 3), " ", n(5, 6), " ", max(0, day-1), " ", day+n(0, 3), " ", n(0, 3000))
	case 25:
		return pick(r, fmt.Sprint("pass ", n(0, 3), " ", near(), " ", n(1, 3)), fmt.Sprint(pick(r, "hold ", "free ", "end "), n(0, 3), " ", near()))
	case 26:
		return fmt.Sprint("pond ", n(4, 6), " ", n(0, 100))
	case 27:
		return pick(r, fmt.Sprint("site ", n(0, 3), " ", pick(r, 1, 3), " 0"), fmt.Sprint("site ", n(0, 3), " 2 ", n(1, 4)))
	}
	a := n(0, 3)
	return fmt.Sprint("track ", n(0, 5), " ", a, " ", (a+1)%4, " 60 ", n(1, 4), " ", pick(r, 20, 60))
}

// someSheet returns the form of a sheet of about 100 millimetres of water.
func someSheet(r *rand.Rand, day int) string {
	near := func() int { return max(0, day+between(r, -3, 0)) }
	stakes := make([]string, between(r, 1, 2))
	for i := range stakes {
		stakes[i] = fmt.Sprint("400/300/", 100+between(r, 95, 125), "/", between(r, 0, 20), "/", between(r, 0, 20))
	}
	return fmt.Sprint("course ", between(r, 0, 5), " ", between(r, 1, 3), " ", near(), " ", between(r, 0, 1), " 1 100 ", near(), " ", strings.Join(stakes, " "))
}

// step does something.
func (p *player) step() {
	r := p.r
	o := r.Intn(len(p.books))
	other := (o + 1 + r.Intn(max(1, len(p.books)-1))) % len(p.books)
	switch k := r.Intn(40); {
	case k < 20:
		p.write(o, someForm(r, p.day))
	case k < 26:
		if o != other {
			p.send(o, other, someNoise(r))
		}
	case k < 36:
		p.tell(o, pick(r, 5, 5, 5, 6), p.day+pick(r, 0, 1, 2, 2, 2, 3))
	case k < 37:
		p.wait(1)
	case k < 38:
		line := fmt.Sprint("crash ", o, " ", between(r, 1, 8))
		if p.isOpen[o] {
			want(p.t, p.y, line, "")
		} else {
			fails(p.t, p.y, line, api.ErrNotNow)
		}
	default:
		if !p.isOpen[o] || r.Intn(3) == 0 {
			p.reopen(o, someNoise(r))
		}
	}
}

// someNoise returns a word of digits.
func someNoise(r *rand.Rand) string {
	l := make([]byte, between(r, 1, 20))
	for i := range l {
		l[i] = pick(r, byte('0'), '1', '2', '8', byte('0'+r.Intn(10)))
	}
	return string(l)
}

// start writes most of what there is to know, wide enough to leave much open.
func (p *player) start() {
	p.wait(20)
	for _, form := range []string{
		"laws 20 60 500", "cell 2 1200 1 10 5", "cell 1 1000 0 10 5", "cell 3 1000 5 20 6", "pair 1 2", "scale 1 1", "test 1 20 -2 2", "scale 0 2", "test 0 19 -9 9",
		"climate 1000 2 50 20 -100 150 300 304", "spring 1 20 50/0 70/3", "spring 2 20 70/0 50/9 20/0", "pillow 1 1 20 20 10 1", "grant 1 10 1 5 10 25 1500", "site 0 1 0", "site 1 3 0",
	} {
		p.write(0, form)
	}
	for o := range p.books {
		if o > 0 && p.r.Intn(4) > 0 {
			p.send(0, o, "0")
		}
	}
}

// P10.2, P10.3, P10.4: what offices tell in random plays, against what follows from plain lists of their messages.
func TestPlays(t *testing.T) {
	begin := time.Now()
	for seed := range 40 {
		r := rand.New(rand.NewSource(int64(seed)))
		p := newPlayer(t, r, between(r, 1, 3))
		if seed%4 > 0 {
			p.start()
		}
		for i := range 90 {
			p.step()
			if i%3 == 0 {
				p.compare(r.Intn(len(p.books)))
			}
		}
		if t.Failed() {
			t.Fatal("seed", seed)
		}
	}
	t.Log(time.Since(begin))
}
