package diffs_test

import (
	"math"
	"math/rand"
	"reflect"
	"slices"
	"testing"

	"snowline/api"
	"snowline/diffs"
)

// tableOf returns a table; a pair is written as none if it has nothing.
func tableOf(nodes int, l ...int) api.Table {
	t := api.Table{Nodes: nodes}
	for _, most := range l {
		has := most != none
		if !has {
			most = 0
		}
		t.Most, t.Has = append(t.Most, most), append(t.Has, has)
	}
	return t
}

const none = math.MinInt

// P4.5
func TestClose(t *testing.T) {
	for _, x := range []struct {
		n    api.Net
		want api.Table
		e    api.Errno
	}{
		{sample(), tableOf(3, 0, 5, 3, -2, 0, -2, 0, 5, 0), api.OK},
		{netOf(1), tableOf(1, 0), api.OK},
		{netOf(1, 0, 0, 9), tableOf(1, 0), api.OK},
		{netOf(2), tableOf(2, 0, none, none, 0), api.OK},
		{netOf(2, 1, 0, 3), tableOf(2, 0, none, 3, 0), api.OK},
		{netOf(3, 1, 2, 3, 1, 2, -4), tableOf(3, 0, none, none, none, 0, -4, none, none, 0), api.OK},
		{clashing(), api.Table{}, api.ErrClash},
		{netOf(64, 63, 63, -1), api.Table{}, api.ErrClash},
		{netOf(65, 64, 64, -1), api.Table{}, api.ErrLimit},
		{netOf(65), api.Table{}, api.ErrLimit},
		{netOf(256), api.Table{}, api.ErrLimit},
		{netOf(257), api.Table{}, api.ErrNet},
	} {
		if got, e := diffs.Close(x.n); !reflect.DeepEqual(got, x.want) || e != x.e {
			t.Errorf("%v: Close returns %v, %d", x.n, got, e)
		}
	}
	if got, e := diffs.Close(netOf(64)); e != api.OK || len(got.Most) != 4096 || len(got.Has) != 4096 {
		t.Errorf("Close of 64 nodes returns %d", e)
	}
}

// P4.5: what Apart returns for each pair, and what the definition says.
func TestCloseIsApart(t *testing.T) {
	r := rand.New(rand.NewSource(12))
	for range 150 {
		n := random(r, 6, 14, 9)
		if r.Intn(2) == 0 {
			n = around(r, 1+r.Intn(9), r.Intn(30))
		}
		want, is := lengths(n)
		got, e := diffs.Close(n)
		if (e == api.OK) != is || !is && e != api.ErrClash || !reflect.DeepEqual(got, want) {
			t.Fatalf("%v: Close returns %v, %d, not %v", n, got, e, want)
		}
		for place := range got.Most {
			a, has, _ := diffs.Apart(n, place/n.Nodes, place%n.Nodes)
			if a != got.Most[place] || has != got.Has[place] {
				t.Fatalf("%v: Close returns %v, Apart %d, %v at %d", n, got, a, has, place)
			}
		}
	}
}

// P4.5
func TestNarrow(t *testing.T) {
	a := tableOf(3, 0, 5, 3, -2, 0, -2, 0, 5, 0)
	wide := tableOf(2, 0, 2<<30, 2<<30, 0)
	for _, x := range []struct {
		t    api.Table
		d    api.Diff
		want api.Table
		e    api.Errno
	}{
		{a, diff(0, 1, 4), tableOf(3, 0, 4, 2, -2, 0, -2, 0, 4, 0), api.OK},
		{a, diff(0, 1, 5), a, api.OK},
		{a, diff(0, 1, 9), a, api.OK},
		{a, diff(0, 1, 2), tableOf(3, 0, 2, 0, -2, 0, -2, 0, 2, 0), api.OK},
		{a, diff(0, 1, 1), api.Table{}, api.ErrClash},
		{a, diff(1, 1, 0), a, api.OK},
		{a, diff(1, 1, -1), api.Table{}, api.ErrClash},
		{a, diff(0, 3, 1), api.Table{}, api.ErrArg},
		{a, diff(3, 0, 1), api.Table{}, api.ErrArg},
		{a, diff(-1, 0, 1), api.Table{}, api.ErrArg},
		{a, diff(0, 1, -1<<30-1), api.Table{}, api.ErrArg},
		{a, diff(0, 1, 1<<30+1), api.Table{}, api.ErrArg},
		{a, diff(0, 1, -1<<30), api.Table{}, api.ErrClash},
		{tableOf(2, 0, none, none, 0), diff(0, 1, -1<<30), tableOf(2, 0, -1<<30, none, 0), api.OK},
		{tableOf(2, 0, none, 3, 0), diff(0, 1, -3), tableOf(2, 0, -3, 3, 0), api.OK},
		{tableOf(2, 0, none, 3, 0), diff(0, 1, -4), api.Table{}, api.ErrClash},
		{tableOf(2, 0, none, 3, 0), diff(1, 0, -4), tableOf(2, 0, none, -4, 0), api.OK},
		{tableOf(3, 0, none, none, 2, 0, none, none, none, 0), diff(0, 2, 5), tableOf(3, 0, none, 5, 2, 0, 7, none, none, 0), api.OK},
		{wide, diff(0, 1, 1<<30), tableOf(2, 0, 1<<30, 2<<30, 0), api.OK},
		{wide, diff(0, 1, -1<<30), tableOf(2, 0, -1<<30, 2<<30, 0), api.OK},
		{tableOf(1, 0), diff(0, 0, 0), tableOf(1, 0), api.OK},
		{tableOf(1, 0), diff(0, 0, -1), api.Table{}, api.ErrClash},
	} {
		before := api.Table{Nodes: x.t.Nodes, Most: slices.Clone(x.t.Most), Has: slices.Clone(x.t.Has)}
		if got, e := diffs.Narrow(x.t, x.d); !reflect.DeepEqual(got, x.want) || e != x.e {
			t.Errorf("%v: Narrow by %v returns %v, %d", x.t, x.d, got, e)
		}
		if !reflect.DeepEqual(x.t, before) {
			t.Fatalf("Narrow by %v changes the table to %v", x.d, x.t)
		}
	}
}

// P4.5: tables that are not valid.
func TestInvalidTables(t *testing.T) {
	good := func() api.Table { return tableOf(3, 0, 5, 3, -2, 0, -2, 0, 5, 0) }
	changed := func(change func(t *api.Table)) api.Table {
		t := good()
		change(&t)
		return t
	}
	tables := map[string]api.Table{
		"none":               {},
		"no node":            {Nodes: 0, Most: []int{0}, Has: []bool{true}},
		"fewer than none":    {Nodes: -1, Most: []int{0}, Has: []bool{true}},
		"far too many nodes": {Nodes: math.MaxInt},
		"2^32 nodes":         {Nodes: 1 << 32},
		"no lists":           {Nodes: 1},
		"short Most":         changed(func(t *api.Table) { t.Most = t.Most[:8] }),
		"short Has":          changed(func(t *api.Table) { t.Has = t.Has[:8] }),
		"long Most":          changed(func(t *api.Table) { t.Most = append(t.Most, 0) }),
		"long Has":           changed(func(t *api.Table) { t.Has = append(t.Has, true) }),
		"too few nodes":      changed(func(t *api.Table) { t.Nodes = 2 }),
		"above itself":       changed(func(t *api.Table) { t.Most[4] = 1 }),
		"below itself":       changed(func(t *api.Table) { t.Most[8] = -1 }),
		"not with itself":    changed(func(t *api.Table) { t.Has[0] = false }),
		"too much":           changed(func(t *api.Table) { t.Most[1] = 9 }),
		"no longer there":    changed(func(t *api.Table) { t.Has[2], t.Most[2] = false, 0 }),
		"not led on":         tableOf(3, 0, none, 3, none, 0, none, none, 4, 0),
		"a round below 0":    tableOf(2, 0, 3, -4, 0),
		"not there, but 1":   {Nodes: 2, Most: []int{0, 1, 0, 0}, Has: []bool{true, false, false, true}},
		"too great":          tableOf(2, 0, 2<<30+1, 0, 0),
		"too small":          tableOf(2, 0, none, -2<<30-1, 0),
		"far too great":      tableOf(2, 0, math.MaxInt, math.MaxInt, 0),
		"65 nodes":           open(65),
	}
	for name, table := range tables {
		for _, d := range []api.Diff{{}, diff(0, 99, 0), diff(0, 0, -1)} {
			if got, e := diffs.Narrow(table, d); e != api.ErrNet || got.Nodes != 0 || got.Most != nil || got.Has != nil {
				t.Errorf("Narrow of a table that is not valid (%s) by %v: %v, %d", name, d, got, e)
			}
		}
	}
	for _, table := range []api.Table{good(), open(64), tableOf(2, 0, 2<<30, -2<<30, 0), tableOf(2, 0, 2<<30, none, 0), tableOf(2, 0, none, -2<<30, 0)} {
		if got, e := diffs.Narrow(table, api.Diff{}); e != api.OK || !reflect.DeepEqual(got, table) {
			t.Errorf("%v: Narrow returns %v, %d", table, got, e)
		}
	}
}

// P4.5: tables of nets of which one place was changed.
func TestChangedTables(t *testing.T) {
	r := rand.New(rand.NewSource(22))
	valid := 0
	for range 3000 {
		table, e := diffs.Close(around(r, 1+r.Intn(5), r.Intn(12)))
		if e != api.OK {
			t.Fatalf("Close returns %d", e)
		}
		place := r.Intn(len(table.Most))
		switch r.Intn(3) {
		case 0:
			table.Most[place] += r.Intn(3) - 1
		case 1:
			table.Has[place] = !table.Has[place]
		case 2:
			table.Has[place], table.Most[place] = true, r.Intn(1<<31)-1<<30
		}
		_, e = diffs.Narrow(table, api.Diff{})
		is := isValid(table)
		if is != (e == api.OK) || !is && e != api.ErrNet {
			t.Fatalf("%v: Narrow returns %d", table, e)
		}
		if is {
			valid++
		}
	}
	if valid < 500 || valid > 2500 {
		t.Errorf("%d of 3000 tables are valid: too few of one kind", valid)
	}
}

// isValid reports, by the definition, whether a table with lists of the right length and numbers that are not too great is valid.
func isValid(t api.Table) bool {
	is := true
	for i := range t.Nodes {
		is = is && t.Has[i*t.Nodes+i] && t.Most[i*t.Nodes+i] == 0
		for j := range t.Nodes {
			is = is && (t.Has[i*t.Nodes+j] || t.Most[i*t.Nodes+j] == 0)
			for k := range t.Nodes {
				a, b, c := i*t.Nodes+j, j*t.Nodes+k, i*t.Nodes+k
				is = is && (!t.Has[a] || !t.Has[b] || t.Has[c] && t.Most[c] <= t.Most[a]+t.Most[b])
			}
		}
	}
	return is
}

// open returns the table of a net of that many nodes without differences.
func open(nodes int) api.Table {
	t := api.Table{Nodes: nodes, Most: make([]int, nodes*nodes), Has: make([]bool, nodes*nodes)}
	for i := range nodes {
		t.Has[i*nodes+i] = true
	}
	return t
}

// P4.5: sums that lie outside of what a table may have are returned as they are.
func TestNarrowWide(t *testing.T) {
	wide := tableOf(4, 0, 4<<30, none, none, none, 0, none, none, none, none, 0, 4<<30, none, none, none, 0)
	got, e := diffs.Narrow(wide, diff(1, 2, 1<<30))
	want := tableOf(4, 0, 4<<30, 5<<30, 9<<30, none, 0, 1<<30, 5<<30, none, none, 0, 4<<30, none, none, none, 0)
	if e != api.OK || !reflect.DeepEqual(got, want) {
		t.Errorf("Narrow returns %v, %d", got, e)
	}
}

// P4.5, P4.11: tables grow with the nets, in each order of the differences, up to the first contradiction.
func TestStepByStep(t *testing.T) {
	r := rand.New(rand.NewSource(13))
	clashes, last := 0, 0
	for range 250 {
		n := random(r, 6, 12, 9)
		if r.Intn(2) == 0 {
			n = around(r, 1+r.Intn(8), r.Intn(30))
		}
		r.Shuffle(len(n.Diffs), func(i, k int) { n.Diffs[i], n.Diffs[k] = n.Diffs[k], n.Diffs[i] })
		grown := api.Net{Nodes: n.Nodes}
		table, e := diffs.Close(grown)
		if e != api.OK {
			t.Fatalf("Close without differences returns %d", e)
		}
		for _, d := range n.Diffs {
			grown = with(grown, d)
			want, e := diffs.Close(grown)
			got, f := diffs.Narrow(table, d)
			if e != f || !reflect.DeepEqual(got, want) {
				t.Fatalf("%v: Narrow by %v returns %v, %d, not %v, %d", grown, d, got, f, want, e)
			}
			if e != api.OK {
				clashes++
				break
			}
			table = got
		}
		if len(grown.Diffs) == len(n.Diffs) {
			last++
		}
	}
	if clashes < 20 || last < 100 {
		t.Errorf("%d nets clash, %d were added as a whole: too few", clashes, last)
	}
}

// P4.5: a table of the greatest size.
func TestLargeTable(t *testing.T) {
	n := api.Net{Nodes: 64}
	for i := range 63 {
		n.Diffs = append(n.Diffs, diff(i, i+1, 1<<30))
	}
	table, e := diffs.Close(n)
	if e != api.OK || table.Most[63] != 63<<30 || table.Has[64] {
		t.Fatalf("Close of a chain returns %d", e)
	}
	got, e := diffs.Narrow(table, diff(63, 0, -1<<30))
	want, f := diffs.Close(with(n, diff(63, 0, -1<<30)))
	if e != api.OK || f != api.OK || !reflect.DeepEqual(got, want) {
		t.Errorf("Narrow to a round returns %d, Close %d", e, f)
	}
}
