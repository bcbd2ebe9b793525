package wal

import (
	"countermand/api"
	"countermand/disk"
)

// activeBit selects the active half in the first byte of the disk.
const activeBit = 1

// volume is a disk with two halves of the same number of sectors, behind a first sector.
type volume struct {
	drive  *disk.Disk
	half   int
	active int
}

// size returns the number of bytes of a half.
func (v *volume) size() int {
	return v.half * api.SectorSize
}

// first returns the index of the first sector of a half.
func (v *volume) first(which int) int {
	return 1 + which*v.half
}

// load finds the active half and returns its bytes.
func (v *volume) load() []byte {
	head, _ := v.drive.Read(0)
	v.active = int(head[0] & activeBit)
	var out []byte
	for i := range v.half {
		b, _ := v.drive.Read(v.first(v.active) + i)
		out = append(out, b...)
	}
	return out
}

// wipe overwrites the bytes of the active half from used to the last one that is not 0.
func (v *volume) wipe(b []byte, used int) bool {
	end := len(b)
	for end > used && b[end-1] == 0 {
		end--
	}
	clear(b[used:end])
	return v.save(v.active, b, used, end)
}

// save writes each sector of a half that contains one of the bytes from start to end of b; the rest of the last sector is 0.
func (v *volume) save(which int, b []byte, start int, end int) bool {
	if start == end {
		return true
	}
	for i := start / api.SectorSize; i <= (end-1)/api.SectorSize; i++ {
		var sector [api.SectorSize]byte
		copy(sector[:], b[i*api.SectorSize:])
		if !v.drive.Write(v.first(which)+i, sector[:]) {
			return false
		}
	}
	return true
}

// replace clears the other half, writes b to it and makes it the active one.
func (v *volume) replace(b []byte) bool {
	other := 1 - v.active
	if !v.save(other, make([]byte, v.size()), 0, v.size()) || !v.save(other, b, 0, len(b)) || !v.choose(other) {
		return false
	}
	v.active = other
	return true
}

// choose writes the first sector with the bit of a half.
func (v *volume) choose(which int) bool {
	head, ok := v.drive.Read(0)
	if !ok {
		return false
	}
	head[0] = head[0]&^activeBit | byte(which)
	return v.drive.Write(0, head)
}
