package radio

import "snowline/api"

// sector is what a sector of a disk contains.
type sector [api.SectorSize]byte

// write is a write that is not safe: what its sector contained before and after it.
type write struct {
	at            int
	before, after sector
}

// Disk is a disk of sectors whose writes are safe after a Sync.
type Disk struct {
	sectors []sector // as they are after all writes
	writes  []write  // those that are not safe
	isDown  bool
	falls   int // how often the power has gone off
	armed   int // how many calls from now on the power goes off, 0 if the disk is not armed
}

// NewDisk returns a disk of so many sectors of zeros.
func NewDisk(sectors int) (*Disk, api.Errno) {
	if !isIn(sectors, 1, api.MaxSectors) {
		return nil, api.ErrArg
	}
	return &Disk{sectors: make([]sector, sectors)}, api.OK
}

// Sectors returns how many sectors d has.
func (d *Disk) Sectors() int { return len(d.sectors) }

// Up reports whether the power is on.
func (d *Disk) Up() bool { return !d.isDown }

// Read returns a sector.
func (d *Disk) Read(at int) (string, api.Errno) {
	if d.isDown {
		return "", api.ErrDown
	}
	if !d.has(at) {
		return "", api.ErrArg
	}
	return string(d.sectors[at][:]), api.OK
}

// Write writes a sector.
func (d *Disk) Write(at int, s string) api.Errno {
	if d.isDown {
		return api.ErrDown
	}
	if !d.has(at) || len(s) != api.SectorSize {
		return api.ErrArg
	}
	x := write{at: at, before: d.sectors[at]}
	copy(x.after[:], s)
	d.sectors[at] = x.after
	d.writes = append(d.writes, x)
	return d.count()
}

// Sync makes all writes safe.
func (d *Disk) Sync() api.Errno {
	if d.isDown {
		return api.ErrDown
	}
	if e := d.count(); e != api.OK {
		return e
	}
	d.settle()
	return api.OK
}

// Arm has the power go off at the n-th write or sync from now on.
func (d *Disk) Arm(n int) { d.armed = max(0, n) }

// Restart turns the power on again: of the writes that were not safe those survive that keep says, the last one of them perhaps in part.
func (d *Disk) Restart(keep string) {
	d.turnOff()
	for i := len(d.writes) - 1; i >= 0; i-- {
		d.sectors[d.writes[i].at] = d.writes[i].before
	}
	last := -1
	for i := range min(len(keep), len(d.writes)) {
		if keep[i] != 0 {
			last = i
		}
	}
	for i, x := range d.writes[:last+1] {
		n := api.SectorSize
		if i == last {
			n = min(n, int(keep[i]))
		}
		if keep[i] != 0 {
			copy(d.sectors[x.at][:n], x.after[:])
		}
	}
	d.settle()
	d.armed = 0
	d.isDown = false
}

func (d *Disk) has(at int) bool { return isIn(at, 0, len(d.sectors)-1) }

// count counts a call of Write or Sync; it returns ErrDown if the power goes off at it.
func (d *Disk) count() api.Errno {
	if d.armed == 0 {
		return api.OK
	}
	d.armed--
	if d.armed > 0 {
		return api.OK
	}
	d.turnOff()
	return api.ErrDown
}

func (d *Disk) turnOff() {
	if !d.isDown {
		d.isDown = true
		d.falls++
	}
}

// settle makes safe what the sectors contain.
func (d *Disk) settle() {
	clear(d.writes)
	d.writes = d.writes[:0]
}
