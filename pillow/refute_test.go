package pillow_test

import (
	"math"
	"math/rand"
	"testing"

	"snowline/api"
	"snowline/pillow"
)

// P3.4
func TestRefute(t *testing.T) {
	for i, x := range []struct {
		p    api.Pillow
		w    []api.Span
		l    []int
		pair [2]int
		is   bool
	}{
		{api.Pillow{}, nil, nil, [2]int{}, false}, {of(0, 0, 0, 0, 7), nil, []int{0}, [2]int{}, false},
		{a(), w(), []int{0, 0, 0}, [2]int{0, 1}, true}, {a(), w(), []int{0, 2, 0}, [2]int{}, false}, {a(), w(), []int{0, 1, 1}, [2]int{0, 1}, true}, {a(), w(), []int{1, 0, 0}, [2]int{0, 1}, true},
		// The ends: 175 - 135 is 40.
		{a(), spans(0, 40, -70, 0), []int{1, 0, 0}, [2]int{}, false}, {a(), spans(0, 39, -70, 0), []int{1, 0, 0}, [2]int{0, 1}, true}, {a(), spans(90, 99, -99, 0), []int{0, 0, 0}, [2]int{}, false}, {a(), spans(91, 99, -99, 0), []int{0, 0, 0}, [2]int{0, 1}, true},
		{a(), spans(0, 99, -61, -60), []int{0, 0, 0}, [2]int{}, false}, {a(), spans(0, 99, -59, -5), []int{0, 0, 0}, [2]int{1, 2}, true},
		// Over an entry that contradicts neither.
		{of(0, 0, 0, 1, 50, 80, 90), spans(0, 9, 0, 30), []int{0, 2, 0}, [2]int{0, 2}, true}, {of(0, 0, 0, 1, 50, 80, 90), spans(0, 10, 0, 30), []int{0, 2, 0}, [2]int{}, false},
		{of(5, 0, 0, 0, 50, 60, 70), spans(0, 0, 0, 9), []int{0, 0, 0}, [2]int{0, 2}, true}, {of(5, 0, 0, 0, 50, 61, 80), spans(0, 0, 0, 0), []int{0, 0, 0}, [2]int{0, 1}, true},
		{of(0, 0, 0, 0, 50, 50, 50, 51), spans(0, 0, 0, 0, 0, 0), []int{0, 0, 0, 0}, [2]int{0, 3}, true},
		// In a fault the load is from 0 to 65536 all the same.
		{of(0, 0, 0, 1, 3, 9), spans(-9, -4), []int{0, 2}, [2]int{0, 1}, true}, {of(0, 0, 0, 1, 3, 9), spans(-9, -3), []int{0, 2}, [2]int{}, false},
		{of(0, 0, 0, 1, 65530, 9), spans(7, 99), []int{0, 2}, [2]int{0, 1}, true}, {of(0, 0, 0, 1, 65530, 9), spans(6, 99), []int{0, 2}, [2]int{}, false},
		{of(9, 0, 0, 2, 9, 9, 9), spans(-65536, 65536, 65536, 65536), []int{0, 2, 2}, [2]int{}, false}, {of(9, 0, 0, 3, 9, 9, 9, 9), spans(-65536, 65536, 65536, 65536, 1, 1), []int{0, 2, 2, 2}, [2]int{1, 3}, true},
		{of(65536, 0, 0, 3, 0, 0, 0, 0), spans(0, 65536, 65536, 65536, 1, 1), []int{0, 2, 2, 2}, [2]int{0, 3}, true},
		{of(65536, 0, 0, 3, 0, 0, 0, 0), spans(-65536, 65536, -65536, -65536, -1, -1), []int{0, 2, 2, 2}, [2]int{1, 3}, true},
	} {
		pair, is, e := pillow.Refute(x.p, x.w, x.l)
		if pair != x.pair || is != x.is || e != api.OK {
			t.Error(i, pair, is, e)
		}
		if is && pillow.CheckRefute(x.p, x.w, x.l, pair) != api.OK {
			t.Error(i, pair)
		}
	}
}

// P3.4
func TestCheckRefute(t *testing.T) {
	for i, x := range []struct {
		pair [2]int
		e    api.Errno
	}{
		{[2]int{0, 1}, api.OK}, {[2]int{1, 2}, api.OK}, {[2]int{0, 2}, api.ErrRefuted}, {[2]int{1, 0}, api.ErrRefuted}, {[2]int{2, 1}, api.ErrRefuted}, {[2]int{0, 0}, api.ErrRefuted}, {[2]int{1, 1}, api.ErrRefuted},
		{[2]int{0, 3}, api.ErrRefuted}, {[2]int{-1, 1}, api.ErrRefuted}, {[2]int{-2, -1}, api.ErrRefuted}, {[2]int{3, 4}, api.ErrRefuted}, {[2]int{math.MinInt, math.MaxInt}, api.ErrRefuted}, {[2]int{0, math.MaxInt}, api.ErrRefuted},
	} {
		if e := pillow.CheckRefute(a(), w(), []int{0, 0, 0}, x.pair); e != x.e {
			t.Error(i, e)
		}
		if e := pillow.CheckRefute(a(), w(), []int{0, 2, 0}, x.pair); e != api.ErrRefuted {
			t.Error(i, e)
		}
		if e := pillow.CheckRefute(api.Pillow{}, nil, nil, x.pair); e != api.ErrRefuted {
			t.Error(i, e)
		}
	}
}

// contradict says whether two entries of a small pillow contradict each other, by trying all loads. If both are faults, loads far from 0 and 65536 do for any change.
func contradict(p api.Pillow, w []api.Span, l []int, i, k int) bool {
	var sum api.Span
	for _, s := range w[i:k] {
		sum.Lo += s.Lo
		sum.Hi += s.Hi
	}
	if l[i] == api.FaultP && l[k] == api.FaultP {
		return false
	}
	near := p.Log[0].Weight
	for x := near - 50; x <= near+50; x++ {
		for more := sum.Lo; more <= sum.Hi; more++ {
			if may(p, i, l[i], x) && may(p, k, l[k], x+more) {
				return false
			}
		}
	}
	return true
}

// P3.4, P3.7: the least pair is found, each pair is judged as trying tells, and a case remains exactly if there is none.
func TestPairsSuffice(t *testing.T) {
	apart, far := 0, 0
	eachSmall(func(_ *rand.Rand, p api.Pillow, w []api.Span) {
		for _, l := range allStates(len(p.Log)) {
			if !isCase(p, l) {
				continue
			}
			var first [2]int
			some := false
			for i := range l {
				for k := i + 1; k < len(l); k++ {
					is := contradict(p, w, l, i, k)
					if e := pillow.CheckRefute(p, w, l, [2]int{i, k}); (e == api.OK) != is || !is && e != api.ErrRefuted {
						t.Fatal(p, w, l, i, k, is, e)
					}
					if is && !some {
						first, some = [2]int{i, k}, true
					}
				}
			}
			if pair, is, e := pillow.Refute(p, w, l); pair != first || is != some || e != api.OK || aliveOf(t, p, w, l) == some {
				t.Fatal(p, w, l, pair, is, first, some)
			}
			if some {
				apart++
			}
			if first[1]-first[0] > 1 {
				far++
			}
		}
	})
	if apart < 500 || far < 50 {
		t.Error(apart, far)
	}
}

// P3.7: the same for long logs.
func TestPairsSufficeForLongLogs(t *testing.T) {
	r := rand.New(rand.NewSource(5))
	alive, dead := 0, 0
	for range 3000 {
		p, w := long(r)
		p.Faults, p.Jump = api.MaxLog, 0
		var l []int
		for i := range p.Log {
			l = append(l, []int{0, 1, 1, 2, 2, 2, 2, 2}[r.Intn(8)])
			if i == 0 || p.Log[i].Weight == p.Log[i-1].Weight {
				l[i] = r.Intn(2)
			}
		}
		pair, is, e := pillow.Refute(p, w, l)
		if e != api.OK || is == aliveOf(t, p, w, l) || is != (pillow.CheckRefute(p, w, l, pair) == api.OK) {
			t.Fatal(p, w, l, pair, is, e)
		}
		if is {
			dead++
		} else {
			alive++
		}
	}
	if alive < 100 || dead < 100 {
		t.Error(alive, dead)
	}
}
