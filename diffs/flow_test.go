package diffs_test

import (
	"math"
	"math/rand"
	"slices"
	"testing"

	"snowline/api"
	"snowline/diffs"
)

// P4.7
func TestMost(t *testing.T) {
	for _, x := range []struct {
		n       api.Net
		weights []int
		want    int
		is      bool
	}{
		{sample(), []int{0, 1, -1}, 5, true},
		{sample(), []int{0, -1, 2}, 1, true},
		{sample(), []int{7, 0, 0}, 0, true},
		{sample(), []int{0, 1, 1}, 8, true},
		{sample(), []int{0, -1, 0}, -2, true},
		{sample(), []int{-4096, 4096, 4096}, 4096 * 8, true}, // that of the node 0 does not matter
		{netOf(1), []int{5}, 0, true},
		{netOf(1, 0, 0, 5), []int{0}, 0, true},
		{netOf(2), []int{0, 0}, 0, true},
		{netOf(2), []int{0, 1}, 0, false},
		{netOf(2), []int{0, -1}, 0, false},
		{netOf(2, 0, 1, 4), []int{0, 3}, 12, true},
		{netOf(2, 0, 1, 4), []int{0, -3}, 0, false},
		{netOf(2, 1, 0, 4), []int{0, -3}, 12, true},
		{netOf(2, 1, 0, 4), []int{0, 3}, 0, false},
		{netOf(3, 1, 2, 4), []int{0, -1, 1}, 4, true}, // neither is bounded alone
		{netOf(3, 1, 2, 4), []int{0, -1, 2}, 0, false},
		{netOf(3, 1, 2, 4), []int{0, -2, 1}, 0, false},
		{netOf(3, 1, 2, 4), []int{0, 1, -1}, 0, false},
		{netOf(4, 0, 1, 3, 1, 2, -5, 1, 3, 2), []int{9, 0, 2, 3}, 2*-2 + 3*5, true},
		{netOf(4, 0, 1, 3, 1, 2, -5, 3, 1, 2), []int{0, 1, 2, -3}, 2*-5 + 3*2, true},
		{netOf(4, 0, 1, 3, 1, 2, -5, 3, 1, 2), []int{0, 1, 1, -3}, 0, false},
		{netOf(4, 0, 1, 3, 1, 2, -5, 3, 1, 2), []int{0, 4, 2, -3}, 4*3 + 2*-2 - 3, true},
	} {
		if !x.is {
			x.want = 0
		}
		m, is, e := diffs.Most(x.n, x.weights)
		if m != x.want || is != x.is || e != api.OK {
			t.Errorf("%v: Most for %v returns %d, %v, %d", x.n, x.weights, m, is, e)
		}
		proved(t, x.n, x.weights)
	}
}

// proved fails unless Best attains what Most returns, and Flow proves it; or all of them return nothing. It returns what Most returns.
func proved(t *testing.T, n api.Net, weights []int) (int, bool) {
	t.Helper()
	m, is, e := diffs.Most(n, weights)
	x, isBest, f := diffs.Best(n, weights)
	flow, isFlow, g := diffs.Flow(n, weights)
	if e != api.OK || f != api.OK || g != api.OK || isBest != is || isFlow != is {
		t.Fatalf("%v, %v: Most returns %v, %d; Best %v, %d; Flow %v, %d", n, weights, is, e, isBest, f, isFlow, g)
	}
	if !is {
		if m != 0 || x != nil || flow != nil {
			t.Fatalf("%v, %v: Most returns %d, Best %v, Flow %v, and false", n, weights, m, x, flow)
		}
		return 0, false
	}
	holds(t, n, x)
	if sum(weights, x) != m {
		t.Fatalf("%v, %v: Best returns %v, whose sum is not %d", n, weights, x, m)
	}
	if !proves(n, weights, m, flow) || diffs.CheckFlow(n, weights, m, flow) != api.OK {
		t.Fatalf("%v, %v: Flow returns %v, which does not prove %d", n, weights, flow, m)
	}
	if e := diffs.CheckFlow(n, weights, m-1, flow); e != api.ErrProof {
		t.Fatalf("%v, %v: CheckFlow of %v with less than %d returns %d", n, weights, flow, m, e)
	}
	return m, true
}

// proves reports, by the definition, whether flow proves that no sum is greater than most.
func proves(n api.Net, weights []int, most int, flow []int) bool {
	cost := 0
	for i, d := range n.Diffs {
		cost += flow[i] * d.Most
	}
	for node := 1; node < n.Nodes; node++ {
		comes := 0
		for i, d := range n.Diffs {
			if d.To == node {
				comes += flow[i]
			}
			if d.From == node {
				comes -= flow[i]
			}
		}
		if comes != weights[node] {
			return false
		}
	}
	return len(flow) == len(n.Diffs) && cost <= most
}

// P4.7
func TestInvalidWeights(t *testing.T) {
	for _, w := range [][]int{
		nil, {0}, {0, 1}, {0, 1, 2, 3}, {0, 4097, 0}, {0, 0, -4097}, {0, math.MaxInt, 0}, {0, math.MinInt, 0}, {4097, 0, 0}, {math.MinInt, 0, 0},
	} {
		if m, is, e := diffs.Most(sample(), w); m != 0 || is || e != api.ErrArg {
			t.Errorf("Most for %v returns %d, %v, %d", w, m, is, e)
		}
		if x, is, e := diffs.Best(sample(), w); x != nil || is || e != api.ErrArg {
			t.Errorf("Best for %v returns %v, %v, %d", w, x, is, e)
		}
		if l, is, e := diffs.Flow(sample(), w); l != nil || is || e != api.ErrArg {
			t.Errorf("Flow for %v returns %v, %v, %d", w, l, is, e)
		}
		if e := diffs.CheckFlow(sample(), w, 9, []int{0, 0, 0}); e != api.ErrArg {
			t.Errorf("CheckFlow for %v returns %d", w, e)
		}
	}
	for _, w := range [][]int{{0, 4096, 0}, {0, 0, -4096}, {4096, 0, 0}, {-4096, 0, 0}} {
		proved(t, sample(), w)
	}
}

// P4.7
func TestCheckFlow(t *testing.T) {
	one := netOf(1, 0, 0, 1<<30, 0, 0, -1<<30)
	for _, x := range []struct {
		n       api.Net
		weights []int
		most    int
		flow    []int
		want    api.Errno
	}{
		{sample(), []int{0, 1, -1}, 5, []int{1, 0, 1}, api.OK},
		{sample(), []int{0, 1, -1}, 6, []int{1, 0, 1}, api.OK},
		{sample(), []int{0, 1, -1}, 4, []int{1, 0, 1}, api.ErrProof},
		{sample(), []int{0, -1, 2}, 1, []int{1, 2, 0}, api.OK},
		{sample(), []int{9, -1, 2}, 1, []int{1, 2, 0}, api.OK},
		{sample(), []int{0, -1, 2}, 9, []int{2, 2, 0}, api.ErrProof},
		{sample(), []int{0, -1, 2}, 9, []int{1, 2, 1}, api.ErrProof},
		{sample(), []int{0, -1, 1}, 9, []int{1, 2, 0}, api.ErrProof},
		{sample(), []int{0, 0, 0}, 0, []int{0, 0, 0}, api.OK},
		{sample(), []int{0, 0, 0}, -1, []int{0, 0, 0}, api.ErrProof},
		{sample(), []int{0, 0, 0}, 3 << 20, []int{1 << 20, 1 << 20, 1 << 20}, api.OK},
		{sample(), []int{0, 0, 0}, 3<<20 - 1, []int{1 << 20, 1 << 20, 1 << 20}, api.ErrProof},
		{sample(), []int{0, 0, 0}, math.MaxInt, []int{1<<20 + 1, 1<<20 + 1, 1<<20 + 1}, api.ErrArg},
		{sample(), []int{0, 1, -1}, 9, []int{1, 0, -1}, api.ErrArg},
		{sample(), []int{0, 1, -1}, 9, []int{1, 0, math.MaxInt}, api.ErrArg},
		{sample(), []int{0, 1, -1}, 9, []int{1, 0}, api.ErrArg},
		{sample(), []int{0, 1, -1}, 9, []int{1, 0, 1, 0}, api.ErrArg},
		{sample(), []int{0, 1, -1}, 9, nil, api.ErrArg},
		{clashing(), []int{0, 0, 0}, -9, []int{0, 9, 9, 9}, api.OK}, // there is no assignment
		{clashing(), []int{0, 0, 0}, -10, []int{0, 9, 9, 9}, api.ErrProof},
		{netOf(2), []int{5, 0}, 0, nil, api.OK},
		{netOf(2), []int{5, 1}, 99, nil, api.ErrProof},
		{netOf(2, 1, 1, 2), []int{0, 0}, 6, []int{3}, api.OK}, // what comes to a node also leaves it
		{netOf(2, 1, 1, 2), []int{0, 3}, 6, []int{3}, api.ErrProof},
		{one, []int{4}, 0, []int{7, 7}, api.OK},
		{one, []int{4}, -1 << 50, []int{0, 1 << 20}, api.OK},
		{one, []int{4}, -1<<50 - 1, []int{0, 1 << 20}, api.ErrProof},
	} {
		if e := diffs.CheckFlow(x.n, x.weights, x.most, x.flow); e != x.want {
			t.Errorf("CheckFlow of %v for %v with %d: %d, not %d", x.flow, x.weights, x.most, e, x.want)
		}
	}
}

// P4.7: costs of up to 2^62, there and below 0.
func TestLargeCost(t *testing.T) {
	for _, most := range []int{1 << 30, -1 << 30} {
		n := api.Net{Nodes: 2}
		flow := slices.Repeat([]int{1 << 20}, 4096)
		for range 2048 {
			n.Diffs = append(n.Diffs, diff(0, 1, most), diff(1, 0, most))
		}
		cost := most << 32
		for _, x := range []struct {
			most int
			want api.Errno
		}{{cost, api.OK}, {cost - 1, api.ErrProof}, {math.MaxInt, api.OK}, {math.MinInt, api.ErrProof}} {
			if e := diffs.CheckFlow(n, []int{0, 0}, x.most, flow); e != x.want {
				t.Errorf("CheckFlow with %d of what costs %d: %d", x.most, cost, e)
			}
		}
	}
}

// rises reports whether nothing bounds the sum: whether there are nodes that no difference keeps from rising, or from falling, together, and the sum gets greater by it.
func rises(n api.Net, weights []int) bool {
	for set := 0; set < 1<<n.Nodes; set += 2 { // the node 0 stays
		inside := func(node int) bool { return set>>node&1 == 1 }
		weight, up, down := 0, true, true
		for i, w := range weights {
			if inside(i) {
				weight += w
			}
		}
		for _, d := range n.Diffs {
			up = up && (inside(d.From) || !inside(d.To))
			down = down && (!inside(d.From) || inside(d.To))
		}
		if up && weight > 0 || down && weight < 0 {
			return true
		}
	}
	return false
}

// P4.7, P4.8, P4.12: the greatest sum of all assignments, found by trying.
func TestMostByTrying(t *testing.T) {
	r := rand.New(rand.NewSource(14))
	bounded, free := 0, 0
	for range 500 {
		n := random(r, 3, 6, 2)
		if r.Intn(3) == 0 {
			n = boxed(n, 4)
		}
		all := tried(n, 10)
		for range 4 {
			weights := someWeights(r, n.Nodes, 3)
			if len(all) == 0 {
				if m, is, e := diffs.Most(n, weights); m != 0 || is || e != api.ErrClash {
					t.Fatalf("%v: Most returns %d, %v, %d", n, m, is, e)
				}
				continue
			}
			greatest := math.MinInt
			for _, x := range all {
				greatest = max(greatest, sum(weights, x))
			}
			m, is := proved(t, n, weights)
			if is == rises(n, weights) || is && m != greatest {
				t.Fatalf("%v: Most for %v returns %d, %v, not %d", n, weights, m, is, greatest)
			}
			if is {
				bounded++
			} else {
				free++
			}
		}
	}
	if bounded < 400 || free < 200 {
		t.Errorf("%d sums are bounded, %d are not: too few", bounded, free)
	}
}

// P4.7, P4.12: nets with so many nodes that all sets of them can still be tried.
func TestBoundedOrNot(t *testing.T) {
	r := rand.New(rand.NewSource(15))
	bounded := 0
	for range 1500 {
		nodes := 2 + r.Intn(7)
		n := around(r, nodes, r.Intn(3*nodes))
		weights := someWeights(r, nodes, 1+r.Intn(4096))
		_, is := proved(t, n, weights)
		if is == rises(n, weights) {
			t.Fatalf("%v: Most for %v is bounded: %v", n, weights, is)
		}
		if is {
			bounded++
		}
	}
	if bounded < 150 {
		t.Errorf("only %d sums are bounded", bounded)
	}
}

// P4.7, P4.12: no list that CheckFlow accepts bounds less than what an assignment attains; all short lists of small nets.
func TestDuality(t *testing.T) {
	r := rand.New(rand.NewSource(16))
	accepted := 0
	for range 300 {
		n := random(r, 3, 4, 2)
		weights := someWeights(r, n.Nodes, 2)
		all := tried(n, 6)
		flow := make([]int, len(n.Diffs))
		var try func(i int)
		try = func(i int) {
			if i < len(flow) {
				for flow[i] = 0; flow[i] < 4; flow[i]++ {
					try(i + 1)
				}
				return
			}
			for most := -6; most <= 6; most++ {
				is := proves(n, weights, most, flow)
				if e := diffs.CheckFlow(n, weights, most, flow); is != (e == api.OK) || !is && e != api.ErrProof {
					t.Fatalf("%v, %v: CheckFlow of %v with %d returns %d", n, weights, flow, most, e)
				}
				if is {
					accepted++
				}
				for _, x := range all {
					if is && sum(weights, x) > most {
						t.Fatalf("%v, %v: the sum of %v is greater than %d", n, weights, x, most)
					}
				}
			}
		}
		try(0)
	}
	if accepted < 1000 {
		t.Errorf("only %d lists were accepted", accepted)
	}
}

// P4.12: nets of the greatest size, with all weights.
func TestLargeFlow(t *testing.T) {
	r := rand.New(rand.NewSource(17))
	for try := range 6 {
		n := around(r, 256, 4096-510)
		if try%2 == 0 {
			n = boxed(n, 1<<30-1)
		}
		if diffs.Check(n) != api.OK {
			t.Fatal("the net is not valid")
		}
		weights := someWeights(r, 256, 4096)
		proved(t, n, weights)
	}
}

// P4.7: the greatest sums and uses: a chain that all weights hang on.
func TestChain(t *testing.T) {
	n := api.Net{Nodes: 256}
	want := 0
	for i := range 255 {
		n.Diffs = append(n.Diffs, diff(i, i+1, 1<<30))
		want += 4096 * (i + 1) << 30
	}
	weights := slices.Repeat([]int{4096}, 256)
	if m, is := proved(t, n, weights); m != want || !is {
		t.Errorf("Most of a chain returns %d, %v", m, is)
	}
	flow, _, _ := diffs.Flow(n, weights)
	if flow[0] != 255*4096 {
		t.Errorf("the first difference of a chain is used %d times", flow[0])
	}
	for i := range n.Diffs {
		d := &n.Diffs[i]
		d.From, d.To, d.Most = d.To, d.From, -1<<30
	}
	for i := range weights {
		weights[i] = -4096
	}
	if m, is := proved(t, n, weights); m != -want || !is {
		t.Errorf("Most of a chain that falls returns %d, %v", m, is)
	}
}

// P4.7: numbers that nothing else bounds stay small, though the best ones lie far apart.
func TestBestIsSmall(t *testing.T) {
	r := rand.New(rand.NewSource(18))
	for range 50 {
		nodes := 2 + r.Intn(254)
		n := api.Net{Nodes: nodes}
		order := append([]int{0}, r.Perm(nodes-1)...)
		for i := 1; i < nodes; i++ {
			order[i]++
			from, to := order[i-1], order[i]
			if r.Intn(2) == 0 {
				from, to = to, from
			}
			n.Diffs = append(n.Diffs, diff(from, to, (1<<30)*(1-2*r.Intn(2))))
		}
		weights := make([]int, nodes)
		for range 2 {
			flow := make([]int, len(n.Diffs))
			for i := range flow {
				flow[i] = r.Intn(9)
				weights[n.Diffs[i].To] += flow[i]
				weights[n.Diffs[i].From] -= flow[i]
			}
		}
		x, is, e := diffs.Best(n, weights)
		if !is || e != api.OK {
			t.Fatalf("Best of a tree returns %v, %d", is, e)
		}
		holds(t, n, x)
		proved(t, n, weights)
	}
}

// P4.13: the weight of a single node.
func TestSingleWeight(t *testing.T) {
	r := rand.New(rand.NewSource(19))
	for range 150 {
		n := around(r, 1+r.Intn(9), r.Intn(30))
		for node := 1; node < n.Nodes; node++ {
			weights := make([]int, n.Nodes)
			weights[node] = 1
			m, is := proved(t, n, weights)
			a, there, e := diffs.Apart(n, 0, node)
			if m != a || is != there || e != api.OK {
				t.Fatalf("%v: Most for the node %d is %d, %v; Apart %d, %v, %d", n, node, m, is, a, there, e)
			}
		}
	}
}

// P4.13: weights that are added.
func TestAddedWeights(t *testing.T) {
	r := rand.New(rand.NewSource(20))
	compared := 0
	for range 300 {
		n := around(r, 1+r.Intn(9), r.Intn(40))
		v, w := someWeights(r, n.Nodes, 2048), someWeights(r, n.Nodes, 2048)
		both := make([]int, n.Nodes)
		for i := range both {
			both[i] = v[i] + w[i]
		}
		a, isA := proved(t, n, v)
		b, isB := proved(t, n, w)
		m, is := proved(t, n, both)
		if isA && isB {
			compared++
			if !is || m > a+b {
				t.Fatalf("%v: Most for %v and %v is %d and %d, together %d, %v", n, v, w, a, b, m, is)
			}
		}
	}
	if compared < 50 {
		t.Errorf("only %d pairs of weights are bounded", compared)
	}
}

// P4.13: nets of which every Most is multiplied.
func TestMultiplied(t *testing.T) {
	r := rand.New(rand.NewSource(21))
	for range 200 {
		n := random(r, 6, 14, 1000)
		if _, e := diffs.Solve(n); e != api.OK {
			continue
		}
		by := 1 + r.Intn(1<<20)
		larger := api.Net{Nodes: n.Nodes}
		for _, d := range n.Diffs {
			larger.Diffs = append(larger.Diffs, diff(d.From, d.To, d.Most*by))
		}
		weights := someWeights(r, n.Nodes, 9)
		a, is := proved(t, n, weights)
		b, there := proved(t, larger, weights)
		if b != a*by || is != there {
			t.Fatalf("%v: Most for %v is %d, %v; of all times %d it is %d, %v", n, weights, a, is, by, b, there)
		}
		from, to := r.Intn(n.Nodes), r.Intn(n.Nodes)
		a, is, _ = diffs.Apart(n, from, to)
		b, there, _ = diffs.Apart(larger, from, to)
		if b != a*by || is != there {
			t.Fatalf("%v: Apart of %d and %d is %d, %v; of all times %d it is %d, %v", n, from, to, a, is, by, b, there)
		}
	}
}
