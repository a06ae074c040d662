package diffs_test

import (
	"math/rand"
	"slices"
	"testing"

	"snowline/api"
	"snowline/diffs"
)

// P4.2
func TestSolve(t *testing.T) {
	for _, n := range []api.Net{sample(), netOf(1), netOf(256), netOf(2, 0, 1, -1<<30), netOf(2, 1, 0, -1<<30), netOf(2, 1, 1, 0), netOf(1, 0, 0, 7)} {
		x, e := diffs.Solve(n)
		if e != api.OK {
			t.Fatalf("%v: Solve returns %d", n, e)
		}
		holds(t, n, x)
	}
	r := rand.New(rand.NewSource(2))
	found := 0
	for range 4000 {
		n := random(r, 3, 6, 3)
		is := len(tried(n, 6)) > 0 // Where there is an assignment, there is one of numbers that are lengths of paths.
		x, e := diffs.Solve(n)
		if is {
			found++
			holds(t, n, x)
		}
		if (e == api.OK) != is || !is && (e != api.ErrClash || x != nil) {
			t.Fatalf("%v: Solve returns %v, %d", n, x, e)
		}
	}
	if found < 1000 || found > 3500 {
		t.Errorf("%d of 4000 nets have an assignment: too few of one kind", found)
	}
}

// P4.2
func TestClash(t *testing.T) {
	l, is, e := diffs.Clash(clashing())
	if !is || e != api.OK || !slices.Contains([]string{"\x03\x01\x02", "\x01\x02\x03", "\x02\x03\x01"}, written(l)) {
		t.Errorf("Clash of the second example returns %v, %v, %d", l, is, e)
	}
	for _, n := range []api.Net{sample(), netOf(1), netOf(256), netOf(2, 1, 1, 0), netOf(2, 0, 1, -5, 1, 0, 5)} {
		if l, is, e := diffs.Clash(n); l != nil || is || e != api.OK {
			t.Errorf("%v: Clash returns %v, %v, %d", n, l, is, e)
		}
	}
	for _, n := range []api.Net{netOf(1, 0, 0, -1), netOf(2, 0, 0, 0, 1, 1, -1), netOf(256, 254, 255, -1<<30, 255, 254, 1<<30-1), netOf(2, 0, 1, -5, 1, 0, 4)} {
		l, is, e := diffs.Clash(n)
		if !is || e != api.OK || diffs.CheckClash(n, l) != api.OK {
			t.Errorf("%v: Clash returns %v, %v, %d", n, l, is, e)
		}
	}
}

// written returns a list of small indices as a string.
func written(l []int) string {
	var b []byte
	for _, i := range l {
		b = append(b, byte(i))
	}
	return string(b)
}

// P4.2
func TestCheckClash(t *testing.T) {
	looped := netOf(3, 0, 1, -1, 1, 2, -1, 2, 0, -1, 1, 1, -1, 1, 0, -1)
	for _, x := range []struct {
		n    api.Net
		l    []int
		want api.Errno
	}{
		{clashing(), []int{3, 1, 2}, api.OK},
		{clashing(), []int{1, 2, 3}, api.OK},
		{clashing(), []int{2, 3, 1}, api.OK},
		{clashing(), []int{0, 1, 2}, api.ErrProof},
		{clashing(), []int{3, 2, 1}, api.ErrProof},
		{clashing(), []int{3, 1}, api.ErrProof},
		{clashing(), []int{3, 1, 2, 3, 1, 2}, api.ErrProof},
		{clashing(), nil, api.ErrProof},
		{clashing(), []int{}, api.ErrProof},
		{clashing(), []int{4}, api.ErrArg},
		{clashing(), []int{3, 1, 2, 4}, api.ErrArg},
		{clashing(), []int{-1, 3, 1, 2}, api.ErrArg},
		{looped, []int{0, 1, 2}, api.OK},
		{looped, []int{3}, api.OK},
		{looped, []int{0, 4}, api.OK},
		{looped, []int{0, 3, 1, 2}, api.ErrProof}, // twice from the node 1
		{looped, []int{0, 4, 0, 4}, api.ErrProof},
		{looped, []int{3, 3}, api.ErrProof},
		{looped, []int{1, 2}, api.ErrProof},
		{looped, []int{1, 2, 1}, api.ErrProof},
		{netOf(2, 1, 1, 0), []int{0}, api.ErrProof},
		{netOf(2), nil, api.ErrProof},
		{netOf(2), []int{0}, api.ErrArg},
		{clashing(), make([]int, 99999), api.ErrProof},
	} {
		if e := diffs.CheckClash(x.n, x.l); e != x.want {
			t.Errorf("CheckClash of %v: %d, not %d", x.l[:min(9, len(x.l))], e, x.want)
		}
	}
}

// P4.2, P4.8
func TestRounds(t *testing.T) {
	r := rand.New(rand.NewSource(3))
	for range 600 {
		n := random(r, 3, 4, 2)
		is := len(tried(n, 4)) > 0
		accepted := false
		for _, l := range lists(len(n.Diffs), n.Nodes+1) {
			round := len(l) > 0 && leads(n, n.Diffs[l[0]].From, n.Diffs[l[0]].From, l) && len(starts(n, l)) == len(l) && length(n, l) < 0
			e := diffs.CheckClash(n, l)
			if round != (e == api.OK) || !round && e != api.ErrProof {
				t.Fatalf("%v: CheckClash of %v: %d", n, l, e)
			}
			accepted = accepted || round
		}
		l, there, e := diffs.Clash(n)
		if there != accepted || there == is || e != api.OK || !there && l != nil {
			t.Fatalf("%v: Clash returns %v, %v, %d", n, l, there, e)
		}
		if there && diffs.CheckClash(n, l) != api.OK {
			t.Fatalf("%v: Clash returns %v, which is not accepted", n, l)
		}
	}
}

// P4.2, P4.8: large nets, with a round that is hard to find.
func TestLargeRounds(t *testing.T) {
	r := rand.New(rand.NewSource(4))
	for try := range 60 {
		n := around(r, 2+r.Intn(255), 1+r.Intn(4000))
		x, e := diffs.Solve(n)
		if e != api.OK {
			t.Fatalf("net %d: Solve returns %d", try, e)
		}
		holds(t, n, x)
		apart, is, _ := diffs.Apart(n, n.Nodes-1, 0)
		if !is || apart > 1<<30 {
			continue
		}
		tight := with(n, diff(0, n.Nodes-1, max(-apart, -1<<30)))
		if x, e = diffs.Solve(tight); e != api.OK {
			t.Fatalf("net %d with a round of the length 0: Solve returns %d", try, e)
		}
		holds(t, tight, x)
		over := with(n, diff(0, n.Nodes-1, -apart-1))
		if diffs.Check(over) != api.OK {
			continue
		}
		l, there, e := diffs.Clash(over)
		if !there || e != api.OK || diffs.CheckClash(over, l) != api.OK {
			t.Fatalf("net %d with a round of the length -1: Clash returns %v, %v, %d", try, l, there, e)
		}
	}
}

// P4.2: a round over all nodes, its differences in an order that is bad for a search.
func TestLongRound(t *testing.T) {
	n := api.Net{Nodes: 256}
	for i := 255; i > 0; i-- {
		n.Diffs = append(n.Diffs, diff(i-1, i, -1<<30))
		n.Diffs = append(n.Diffs, diff(i, i-1, 1<<30))
	}
	x, e := diffs.Solve(n)
	if e != api.OK || x[255] != -255<<30 {
		t.Fatalf("Solve returns %d", e)
	}
	holds(t, n, x)
	n.Diffs = append(n.Diffs, diff(255, 0, 1<<30))
	l, is, e := diffs.Clash(n)
	if !is || e != api.OK || diffs.CheckClash(n, l) != api.OK {
		t.Errorf("Clash returns %v, %v, %d", l, is, e)
	}
	loose := api.Net{Nodes: 256}
	for i := 255; i > 0; i-- {
		loose.Diffs = append(loose.Diffs, diff(i-1, i, -1))
	}
	for _, back := range []struct {
		most int
		is   bool
	}{{255, false}, {254, true}} {
		n := with(loose, diff(255, 0, back.most))
		l, is, e := diffs.Clash(n)
		if is != back.is || e != api.OK || is && (len(l) != 256 || diffs.CheckClash(n, l) != api.OK) {
			t.Errorf("Clash of a round of 256 differences, the last one %d: %v, %v, %d", back.most, l, is, e)
		}
	}
}
