package basin_test

import (
	"math"
	"math/rand"
	"reflect"
	"slices"
	"testing"

	"snowline/api"
	"snowline/basin"
)

// P5.3: the chapter's examples.
func TestExamples(t *testing.T) {
	for _, x := range []struct {
		s         api.Scene
		cell, day int
		want      api.Span
	}{
		{sample(), 1, 5, api.Span{Lo: 200, Hi: 210}},
		{sample(), 2, 5, api.Span{Lo: 200, Hi: 340}},
		{later(), 1, 6, api.Span{Lo: 150, Hi: 190}},
		{later(), 2, 6, api.Span{Lo: 150, Hi: 320}},
		{api.Scene{Basin: sample().Basin, Days: []int{0, 9}}, 2, 9, api.Span{Lo: 0, Hi: 900}},
	} {
		if got, e := basin.Cell(x.s, x.cell, x.day); got != x.want || e != api.OK {
			t.Errorf("Cell of %d on %d returns %v, %d", x.cell, x.day, got, e)
		}
	}
	if f, e := basin.Greatest(later()); e != api.OK || !reflect.DeepEqual(f, [][]int{{210, 340}, {190, 320}}) {
		t.Errorf("Greatest returns %v, %d", f, e)
	}
	if f, e := basin.Least(later()); e != api.OK || !reflect.DeepEqual(f, [][]int{{200, 200}, {150, 150}}) {
		t.Errorf("Least returns %v, %d", f, e)
	}
}

// P5.3
func TestNoField(t *testing.T) {
	for _, s := range []api.Scene{clashing(), noWay()} {
		if f, e := basin.Greatest(s); f != nil || e != api.ErrClash {
			t.Errorf("Greatest returns %v, %d", f, e)
		}
		if f, e := basin.Least(s); f != nil || e != api.ErrClash {
			t.Errorf("Least returns %v, %d", f, e)
		}
		if x, e := basin.Cell(s, 1, 5); x != (api.Span{}) || e != api.ErrClash {
			t.Errorf("Cell returns %v, %d", x, e)
		}
	}
	if e := basin.CheckField(noWay(), [][]int{{200, 200}, {190, 190}}); e != api.ErrField {
		t.Errorf("CheckField where no field is allowed returns %d", e)
	}
}

// P5.3
func TestCheckField(t *testing.T) {
	for _, x := range []struct {
		f    [][]int
		want api.Errno
	}{
		{[][]int{{200, 200}, {150, 150}}, api.OK},
		{[][]int{{210, 340}, {190, 320}}, api.OK},
		{[][]int{{210, 341}, {190, 320}}, api.ErrField},
		{[][]int{{211, 340}, {190, 320}}, api.ErrField},
		{[][]int{{199, 340}, {179, 300}}, api.ErrField},
		{[][]int{{200, 199}, {150, 150}}, api.ErrField},
		{[][]int{{200, 200}, {149, 150}}, api.ErrField},
		{[][]int{{200, 200}, {181, 181}}, api.ErrField},
		{[][]int{{200, 200}, {150, 201}}, api.ErrField},
		{[][]int{{200, 300}, {150, 199}}, api.ErrField},
		{nil, api.ErrField},
		{[][]int{{200, 200}}, api.ErrField},
		{[][]int{{200, 200}, {150, 150}, {150, 150}}, api.ErrField},
		{[][]int{{200, 200}, {150}}, api.ErrField},
		{[][]int{{200, 200, 150}, {150}}, api.ErrField},
		{[][]int{{200, 200}, {150, 150, 150}}, api.ErrField},
		{[][]int{{200, 200}, nil}, api.ErrField},
		{[][]int{{200, math.MaxInt}, {150, 150}}, api.ErrField},
		{[][]int{{200, 200}, {math.MinInt, 150}}, api.ErrField},
	} {
		if e := basin.CheckField(later(), x.f); e != x.want {
			t.Errorf("CheckField of %v returns %d", x.f, e)
		}
	}
	one := api.Scene{Basin: api.Basin{Cells: []api.Cell{{Area: 1}}, Deep: 3}, Days: []int{0}}
	for water, want := range map[int]api.Errno{-1: api.ErrField, 0: api.OK, 3: api.OK, 4: api.ErrField} {
		if e := basin.CheckField(one, [][]int{{water}}); e != want {
			t.Errorf("CheckField of %d returns %d", water, e)
		}
	}
}

// P5.3, P5.8, P5.9: small scenes, with all their fields.
func TestFieldsByTrying(t *testing.T) {
	r := rand.New(rand.NewSource(2))
	clashes := 0
	for range 1500 {
		s := small(r)
		all := tried(s)
		greatest, e := basin.Greatest(s)
		if isClash(t, s, all, e) {
			clashes++
			continue
		}
		least, e := basin.Least(s)
		isClash(t, s, all, e)
		if basin.CheckField(s, greatest) != api.OK || basin.CheckField(s, least) != api.OK {
			t.Fatalf("%v: Greatest %v or Least %v is not allowed", s, greatest, least)
		}
		for d, day := range s.Days {
			for c, cell := range s.Basin.Cells {
				want := spanOf(all, func(f [][]int) int { return f[d][c] })
				if got, e := basin.Cell(s, cell.No, day); got != want || e != api.OK {
					t.Fatalf("%v: Cell of %d on %d returns %v, %d, not %v", s, cell.No, day, got, e, want)
				}
				if greatest[d][c] != want.Hi || least[d][c] != want.Lo {
					t.Fatalf("%v: Greatest %v, Least %v", s, greatest, least)
				}
			}
		}
		for range 20 {
			f, _ := anyField(r, s)
			if is := basin.CheckField(s, f) == api.OK; is != allows(s, f) {
				t.Fatalf("%v: CheckField of %v accepts: %v", s, f, is)
			}
		}
		latticed(t, r, s, all)
	}
	if clashes < 200 || clashes > 1000 {
		t.Errorf("%d of the scenes allow no field: too few or too many", clashes)
	}
}

// latticed fails unless CheckField accepts the field that has everywhere the greater, and the one that has everywhere the lesser water of two allowed ones.
func latticed(t *testing.T, r *rand.Rand, s api.Scene, all [][][]int) {
	t.Helper()
	for range 10 {
		a, b := all[r.Intn(len(all))], all[r.Intn(len(all))]
		higher, lower := copied(a), copied(a)
		for d := range a {
			for c := range a[d] {
				higher[d][c], lower[d][c] = max(a[d][c], b[d][c]), min(a[d][c], b[d][c])
			}
		}
		for _, f := range [][][]int{a, b, higher, lower} {
			if e := basin.CheckField(s, f); e != api.OK {
				t.Fatalf("%v: of %v and %v, CheckField of %v returns %d", s, a, b, f, e)
			}
		}
	}
}

// P5.12: neither the least nor the greatest water of the higher one of two cells on like slopes is less.
func TestHigherCell(t *testing.T) {
	r := rand.New(rand.NewSource(3))
	met := 0
	for range 1000 {
		s := small(r)
		if r.Intn(50) == 0 {
			s, _ = large(r)
		}
		for i, p := range s.Basin.Pairs {
			a, b := s.Basin.Cells[p[0]], s.Basin.Cells[p[1]]
			if _, is, _ := basin.More(s.Basin, i); !is || b.Height == a.Height {
				continue
			}
			day := s.Days[r.Intn(len(s.Days))]
			x, e := basin.Cell(s, a.No, day)
			y, _ := basin.Cell(s, b.No, day)
			if e == api.OK && (y.Lo < x.Lo || y.Hi < x.Hi) {
				t.Fatalf("%v: %d has %v, and the higher %d %v", s, a.No, x, b.No, y)
			}
			met++
		}
	}
	if met < 500 {
		t.Errorf("only %d pairs", met)
	}
}

// asked returns what the functions that do not depend on the order of the sights and changes return.
func asked(s api.Scene, cells []int) []any {
	greatest, e := basin.Greatest(s)
	least, f := basin.Least(s)
	l := []any{greatest, e, least, f}
	first, last := s.Days[0], s.Days[len(s.Days)-1]
	for _, no := range cells {
		x, e := basin.Cell(s, no, last)
		l = append(l, x, e)
	}
	valley, e := basin.Valley(s, cells, first)
	lost, f := basin.Lost(s, cells, first, last)
	return append(l, valley, e, lost, f)
}

// P5.12
func TestOrderOfSights(t *testing.T) {
	r := rand.New(rand.NewSource(4))
	for range 400 {
		s := small(r)
		if r.Intn(100) == 0 {
			s, _ = large(r)
		}
		cells := someCells(r, s)
		other := s
		other.Sights, other.Changes = slices.Clone(s.Sights), slices.Clone(s.Changes)
		r.Shuffle(len(other.Sights), func(i, j int) {
			other.Sights[i], other.Sights[j] = other.Sights[j], other.Sights[i]
		})
		r.Shuffle(len(other.Changes), func(i, j int) {
			other.Changes[i], other.Changes[j] = other.Changes[j], other.Changes[i]
		})
		if a, b := asked(s, cells), asked(other, cells); !reflect.DeepEqual(a, b) {
			t.Fatalf("%v and %v: %v and %v", s, other, a, b)
		}
	}
}

// within reports whether a is within b.
func within(a, b api.Span) bool { return b.Lo <= a.Lo && a.Hi <= b.Hi }

// P5.10: a further sight never widens what is told.
func TestNarrower(t *testing.T) {
	r := rand.New(rand.NewSource(5))
	narrowed := 0
	for range 1200 {
		s := small(r)
		no := r.Intn(6)
		if r.Intn(100) == 0 {
			s, _ = large(r)
			s.Sights, no = s.Sights[:255], 31*r.Intn(256)
		}
		further, e := basin.With(s, someSight(r, s, 5, s.Basin.Deep))
		if e != api.OK {
			t.Fatalf("%v: With returns %d", s, e)
		}
		fewer, e := basin.Without(s, no)
		if e != api.OK {
			t.Fatalf("%v: Without returns %d", s, e)
		}
		cells := someCells(r, s)
		tell := asked(s, cells)
		now, before := asked(further, cells), asked(fewer, cells)
		for i := range tell {
			x, is := tell[i].(api.Span)
			if !is || tell[i+1] != api.OK {
				continue
			}
			if !within(x, before[i].(api.Span)) || now[i+1] == api.OK && !within(now[i].(api.Span), x) {
				t.Fatalf("%v: without %d, as it is, and with %v: %v, %v, %v", s, no, further.Sights[len(s.Sights)], before[i], x, now[i])
			}
			if now[i] != x && now[i+1] == api.OK {
				narrowed++
			}
		}
	}
	if narrowed < 300 {
		t.Errorf("only %d spans were narrowed", narrowed)
	}
}
