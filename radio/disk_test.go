package radio_test

import (
	"math"
	"math/rand"
	"slices"
	"strings"
	"testing"

	"snowline/api"
	"snowline/radio"
)

// P9.4
func TestNewDisk(t *testing.T) {
	for _, n := range []int{0, -1, 4097, math.MaxInt, math.MinInt} {
		if d, e := radio.NewDisk(n); d != nil || e != api.ErrArg {
			t.Error(n, e)
		}
	}
	for _, n := range []int{1, 2, 4096} {
		d := newDisk(t, n)
		if d.Sectors() != n || !d.Up() {
			t.Error(n, d.Sectors())
		}
		for _, s := range content(t, d) {
			if s != padded("") {
				t.Fatalf("%d: %q", n, s)
			}
		}
	}
}

// P9.4, with the chapter's example.
func TestTornWrite(t *testing.T) {
	x := strings.Repeat("x", 64)
	d := newDisk(t, 2)
	if e := d.Write(0, x); e != api.OK {
		t.Error(e)
	}
	d.Arm(1)
	if e := d.Sync(); e != api.ErrDown || d.Up() {
		t.Error(e)
	}
	d.Restart("\x03")
	if s, e := d.Read(0); s != padded("xxx") || e != api.OK || !d.Up() {
		t.Errorf("%q %d", s, e)
	}
}

// P9.4: the power is looked at ahead of the arguments, and calls that return an error are not counted.
func TestDiskErrors(t *testing.T) {
	x := strings.Repeat("x", 64)
	d := newDisk(t, 2)
	d.Arm(2)
	for range 2 {
		for _, at := range []int{-1, 2, math.MaxInt, math.MinInt} {
			if e := d.Write(at, x); e != api.ErrArg {
				t.Error(at, e)
			}
			if s, e := d.Read(at); s != "" || e != api.ErrArg {
				t.Error(at, s, e)
			}
		}
		for _, s := range []string{"", "x", x[1:], x + "x", x + x} {
			if e := d.Write(0, s); e != api.ErrArg {
				t.Error(s, e)
			}
		}
	}
	if e := d.Write(1, x); e != api.OK {
		t.Error(e)
	}
	if e := d.Write(0, x); e != api.ErrDown {
		t.Error(e)
	}
	for _, at := range []int{-1, 0, 2} {
		if s, e := d.Read(at); s != "" || e != api.ErrDown {
			t.Error(at, s, e)
		}
		if d.Write(at, x) != api.ErrDown || d.Write(at, "x") != api.ErrDown || d.Sync() != api.ErrDown {
			t.Error(at)
		}
	}
	if d.Up() || d.Sectors() != 2 {
		t.Error(d.Sectors())
	}
	d.Restart("\xff\xff")
	if l := content(t, d); !slices.Equal(l, []string{x, x}) {
		t.Error(l)
	}
}

// P9.4: a later Arm replaces an earlier one, and with 0 or less the disk is not armed.
func TestArm(t *testing.T) {
	for i, x := range []struct {
		arms []int
		want int
	}{{nil, 0}, {[]int{3}, 3}, {[]int{3, 5}, 5}, {[]int{5, 3}, 3}, {[]int{3, 0}, 0}, {[]int{3, -1}, 0}, {[]int{3, math.MinInt}, 0}, {[]int{0, 1}, 1}, {[]int{math.MaxInt}, 0}} {
		d := newDisk(t, 1)
		for _, n := range x.arms {
			d.Arm(n)
		}
		down := 0
		for n := 1; n <= 10 && down == 0; n++ {
			if d.Sync() == api.ErrDown {
				down = n
			}
		}
		if down != x.want {
			t.Error(i, down)
		}
		d.Restart("")
		for range 10 {
			if d.Sync() != api.OK {
				t.Error(i)
			}
		}
	}
	d := newDisk(t, 1)
	d.Arm(2)
	d.Restart("")
	if d.Sync() != api.OK || d.Sync() != api.OK || !d.Up() {
		t.Error("it is armed after Restart")
	}
}

// diskModel is a disk as the chapter describes it.
type diskModel struct {
	safe   []string
	at     []int
	writes []string
	isDown bool
	armed  int
}

// call tells what a Write or Sync that is counted returns.
func (m *diskModel) call() api.Errno {
	m.armed = max(m.armed-1, -1)
	m.isDown = m.armed == 0
	if m.isDown {
		return api.ErrDown
	}
	return api.OK
}

// after returns the sectors after those writes that survive: of the last one so many bytes.
func (m *diskModel) after(survives func(i int) bool, last int) []string {
	l := slices.Clone(m.safe)
	end := -1
	for i := range m.at {
		if survives(i) {
			end = i
		}
	}
	for i, at := range m.at {
		if n := min(last, 64); i == end {
			l[at] = m.writes[i][:n] + l[at][n:]
		} else if survives(i) {
			l[at] = m.writes[i]
		}
	}
	return l
}

// restart does what Restart does.
func (m *diskModel) restart(keep string) {
	survives := func(i int) bool { return i < len(keep) && keep[i] != 0 }
	last := 0
	for i := range m.at {
		if survives(i) {
			last = int(keep[i])
		}
	}
	*m = diskModel{safe: m.after(survives, last), armed: -1}
}

// step does something to d and to m, and compares what happens.
func (m *diskModel) step(t *testing.T, r *rand.Rand, d *radio.Disk) {
	want := api.OK
	switch r.Intn(12) {
	default:
		at, s := r.Intn(len(m.safe)), strings.Repeat(pick(r, []string{"a", "b", "c", "\x00", "\x01"}), 64)
		if want = api.ErrDown; !m.isDown {
			m.at, m.writes = append(m.at, at), append(m.writes, s)
			want = m.call()
		}
		if e := d.Write(at, s); e != want {
			t.Fatal(at, s, e)
		}
	case 0, 1:
		if want = api.ErrDown; !m.isDown {
			want = m.call()
		}
		if want == api.OK {
			*m = diskModel{safe: m.after(func(int) bool { return true }, 64), armed: m.armed}
		}
		if e := d.Sync(); e != want {
			t.Fatal(e)
		}
	case 2:
		n := between(r, -1, 9)
		if m.armed = n; n <= 0 {
			m.armed = -1
		}
		d.Arm(n)
	case 3:
		keep := make([]byte, r.Intn(8))
		for i := range keep {
			keep[i] = pick(r, []byte{0, 0, 1, 3, 63, 64, 65, 255})
		}
		m.restart(string(keep))
		d.Restart(string(keep))
	}
}

// P9.4: against a disk as the chapter describes it.
func TestDiskByTrying(t *testing.T) {
	r := rand.New(rand.NewSource(94))
	downs := 0
	for range 2000 {
		n := between(r, 1, 4)
		d := newDisk(t, n)
		m := &diskModel{safe: slices.Repeat([]string{padded("")}, n), armed: -1}
		for range between(r, 5, 60) {
			m.step(t, r, d)
			if d.Up() == m.isDown {
				t.Fatal(m)
			}
			if m.isDown {
				downs++
				continue
			}
			if l := content(t, d); !slices.Equal(l, m.after(func(int) bool { return true }, 64)) {
				t.Fatal(m, l)
			}
		}
	}
	if downs < 1000 {
		t.Error(downs)
	}
}
