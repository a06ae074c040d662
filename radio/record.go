package radio

import (
	"strings"

	"snowline/api"
)

// The kinds of records, as the first bytes of payloads say them.
const (
	beginningRecord = 1 + iota
	messageRecord
)

// The first sector of a record contains the length of the payload ahead of it, and a mark as its last byte.
const (
	lengthBytes = 4
	markAt      = api.SectorSize - 1
	mark        = 1
	mostPayload = 4096
)

// beginningPayload returns the payload of the beginning of a book.
func beginningPayload(offices int) string {
	return string([]byte{beginningRecord, byte(offices)})
}

// readBeginning returns for how many offices a book is, and whether the payload is that of its beginning.
func readBeginning(payload string) (int, bool) {
	if len(payload) != 2 || payload[0] != beginningRecord || !isIn(int(payload[1]), 1, api.MaxOffices) {
		return 0, false
	}
	return int(payload[1]), true
}

// messagePayload returns the payload of a message.
func messagePayload(e api.Entry) string {
	return string([]byte{messageRecord, byte(e.Office), byte(e.No)}) + e.Body
}

// readMessage returns the message, valid or not, with a payload, and whether the payload is that of a message.
func readMessage(payload string) (api.Entry, bool) {
	if len(payload) < 3 || payload[0] != messageRecord {
		return api.Entry{}, false
	}
	return api.Entry{Office: int(payload[1]), No: int(payload[2]), Body: payload[3:]}, true
}

// recordSectors returns how many sectors a record with a payload of n bytes occupies.
func recordSectors(n int) int { return 1 + (n+lengthBytes)/api.SectorSize }

// record returns the sectors of a record.
func record(payload string) []sector {
	n := len(payload)
	s := string([]byte{byte(n), byte(n >> 8), byte(n >> 16), byte(n >> 24)}) + payload
	l := make([]sector, recordSectors(n))
	at := copy(l[0][:markAt], s)
	l[0][markAt] = mark
	for i := 1; i < len(l); i++ {
		at += copy(l[i][:], s[at:])
	}
	return l
}

// writeRecord writes a record at a sector, and returns how many sectors it occupies. Its first sector, without which it is none, is written when all else is safe.
func writeRecord(d *Disk, at int, payload string) (int, api.Errno) {
	l := record(payload)
	n := len(l)
	if at+n > d.Sectors() {
		return 0, api.ErrFull
	}
	// Whatever the disk contained, the records end behind this one.
	if at+n < d.Sectors() {
		l = append(l, sector{})
	}
	if e := writeSafely(d, at+1, l[1:]); e != api.OK {
		return 0, e
	}
	if e := writeSafely(d, at, l[:1]); e != api.OK {
		return 0, e
	}
	return n, api.OK
}

// writeSafely writes successive sectors, from one on, and makes them safe.
func writeSafely(d *Disk, at int, l []sector) api.Errno {
	for i := range l {
		if e := d.Write(at+i, string(l[i][:])); e != api.OK {
			return e
		}
	}
	return d.Sync()
}

// readRecord returns the payload of what may be a record at a sector, and how many sectors it occupies; none if it cannot be a record.
func readRecord(d *Disk, at int) (string, int) {
	s, e := d.Read(at)
	if e != api.OK || s[markAt] != mark {
		return "", 0
	}
	n := int(s[0]) | int(s[1])<<8 | int(s[2])<<16 | int(s[3])<<24
	count := recordSectors(n)
	if !isIn(n, 1, mostPayload) || at+count > d.Sectors() {
		return "", 0
	}
	var text strings.Builder
	text.WriteString(s[lengthBytes:markAt])
	for i := 1; i < count; i++ {
		s, _ := d.Read(at + i)
		text.WriteString(s)
	}
	return text.String()[:n], count
}
