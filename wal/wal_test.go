package wal_test

import (
	"bytes"
	"math"
	"testing"

	"countermand/api"
	"countermand/disk"
	"countermand/frame"
	"countermand/wal"
)

func rec(n int, x byte) []byte {
	b := make([]byte, n)
	for i := range b {
		b[i] = x + byte(i)
	}
	return b
}

func equal(a, b [][]byte) bool {
	if len(a) != len(b) {
		return false
	}
	for i := range a {
		if !bytes.Equal(a[i], b[i]) {
			return false
		}
	}
	return true
}

func frames(l ...[]byte) []byte {
	var out []byte
	for _, b := range l {
		f, _ := frame.Put(b)
		out = append(out, f...)
	}
	return out
}

// raw makes a disk with these halves.
func raw(n int, first byte, halves ...[]byte) *disk.Disk {
	d := disk.New(2*n + 1)
	whole := make([]byte, 32*(2*n+1))
	whole[0] = first
	for h, b := range halves {
		copy(whole[32*(1+h*n):], b)
	}
	for i := range 2*n + 1 {
		d.Write(i, whole[32*i:32*i+32])
	}
	return d
}

func check(t *testing.T, name string, l *wal.Log, durable int, want ...[]byte) {
	t.Helper()
	if got := l.Records(); !equal(got, want) {
		t.Errorf("P12.1: %s: records %v; want %v", name, got, want)
	}
	if l.Durable() != durable || l.Pending() != len(want)-durable {
		t.Errorf("P12.1: %s: %d durable, %d pending; want %d, %d", name, l.Durable(), l.Pending(), durable, len(want)-durable)
	}
}

// P12.1: a new log, with every number of sectors.
func TestNew(t *testing.T) {
	for n, want := range map[int]int{1: 1, 2: 2, 63: 63, 64: 64, 65: 64, math.MaxInt: 64, 0: 1, -1: 1, math.MinInt: 1} {
		l := wal.New(n)
		check(t, "New", l, 0)
		if l.Room() != 32*want || l.Disk().Len() != 2*want+1 || l.Disk().Dead() || !bytes.Equal(l.Disk().All(), make([]byte, 32*(2*want+1))) {
			t.Errorf("P12.1: New(%d): Room %d, %d sectors", n, l.Room(), l.Disk().Len())
		}
	}
}

// P12.1: Append, Room and Sync; the example.
func TestAppend(t *testing.T) {
	l := wal.New(1)
	for i := range 4 {
		if e := l.Append([]byte{byte(i)}); e != api.OK || l.Room() != 24-8*i || l.Pending() != i+1 || l.Durable() != 0 {
			t.Errorf("P12.1: Append %d: %d, Room %d", i, e, l.Room())
		}
	}
	if e := l.Append([]byte{9}); e != api.ErrFull || l.Pending() != 4 || l.Room() != 0 {
		t.Error("P12.1: Append to a full log", e)
	}
	if l.Disk().Written() != 0 {
		t.Error("P12.1: Append writes to the disk")
	}
	if e := l.Sync(); e != api.OK || l.Room() != 0 {
		t.Error("P12.1: Sync", e)
	}
	check(t, "Sync", l, 4, []byte{0}, []byte{1}, []byte{2}, []byte{3})
	want := append(make([]byte, 32), frames([]byte{0}, []byte{1}, []byte{2}, []byte{3})...)
	if !bytes.Equal(l.Disk().All(), append(want, make([]byte, 32)...)) {
		t.Error("P12.1: Sync writes other bytes")
	}
}

// P12.1: the errors of Append, in order, without effect.
func TestAppendErrors(t *testing.T) {
	l := wal.New(64)
	for n, want := range map[int]api.Errno{0: api.ErrRange, 4097: api.ErrLong, 2041: api.OK} {
		if e := l.Append(make([]byte, n)); e != want {
			t.Errorf("P12.1: Append of %d bytes: %d; want %d", n, e, want)
		}
	}
	if l.Pending() != 1 || l.Room() != 0 {
		t.Error("P12.1: an error has an effect", l.Pending(), l.Room())
	}
	if e := l.Append(nil); e != api.ErrRange {
		t.Error("P12.1: Append of nothing to a full log", e)
	}
	if e := l.Append(make([]byte, 4097)); e != api.ErrLong {
		t.Error("P12.1: Append of a long record to a full log", e)
	}
	if e := l.Append(make([]byte, 4096)); e != api.ErrFull {
		t.Error("P12.1: Append of the longest record", e)
	}
	l = wal.New(1)
	if e := l.Append(make([]byte, 26)); e != api.ErrFull || l.Room() != 32 || l.Pending() != 0 {
		t.Error("P12.1: Append of one byte too many", e)
	}
	if e := l.Append(make([]byte, 25)); e != api.OK || l.Room() != 0 {
		t.Error("P12.1: Append that fills the half", e)
	}
}

// P12.1: Sync writes just the sectors that contain new bytes, and nothing if nothing is pending.
func TestSyncSectors(t *testing.T) {
	l := wal.New(4)
	steps := []struct{ n, sectors int }{{13, 1}, {5, 1}, {25, 1}, {1, 1}, {30, 2}, {1, 1}}
	for i, s := range steps {
		before := l.Disk().Written()
		l.Append(rec(s.n, 1))
		if e := l.Sync(); e != api.OK || l.Disk().Written()-before != 32*s.sectors {
			t.Errorf("P12.1: Sync %d: %d, %d bytes", i, e, l.Disk().Written()-before)
		}
	}
	before := l.Disk().Written()
	if e := l.Sync(); e != api.OK || l.Disk().Written() != before {
		t.Error("P12.1: Sync of nothing")
	}
	want := frames(rec(13, 1), rec(5, 1), rec(25, 1), rec(1, 1), rec(30, 1), rec(1, 1))
	if !bytes.Equal(l.Disk().All()[32:32+len(want)], want) {
		t.Error("P12.1: Sync writes other bytes")
	}
}

// P12.1: the disks that Open accepts.
func TestOpenDisks(t *testing.T) {
	for n := 0; n <= 256; n++ {
		l, ok := wal.Open(disk.New(n))
		if want := n >= 3 && n%2 == 1; ok != want || (l != nil) != want || want && l.Room() != 32*(n/2) {
			t.Errorf("P12.1: Open of %d sectors: %v", n, ok)
		}
	}
	dead := raw(1, 0, frames([]byte{1}))
	dead.Arm(0)
	dead.Write(0, make([]byte, 32))
	for _, d := range []*disk.Disk{nil, new(disk.Disk), dead} {
		if l, ok := wal.Open(d); ok || l != nil {
			t.Error("P12.1: Open of a wrong disk")
		}
	}
}

// P12.1: the lowest bit of the first byte selects the half; frames are read up to the first fault.
func TestOpenHalf(t *testing.T) {
	a, b := rec(3, 10), rec(20, 30)
	for _, first := range []byte{0, 2, 254, 1, 3, 255} {
		d := raw(2, first, frames(a, b), frames(b))
		before := d.Written()
		l, ok := wal.Open(d)
		if !ok || d.Written() != before {
			t.Fatalf("P12.1: Open with %d: %v", first, ok)
		}
		if first&1 == 0 {
			check(t, "half 0", l, 2, a, b)
		} else {
			check(t, "half 1", l, 1, b)
		}
		if want := 64 - len(frames(b)); first&1 == 1 && l.Room() != want {
			t.Error("P12.1: Room after Open", l.Room(), want)
		}
	}
}

// P12.1: Open overwrites what follows the frames, up to the last byte that is not 0.
func TestOpenWipes(t *testing.T) {
	for _, end := range []int{0, 21, 22, 31, 32, 33, 64, 65, 96, 127, 128} {
		half := make([]byte, 128)
		copy(half, frames(rec(14, 3))) // 21 bytes
		if end > 21 {
			half[end-1] = 7
		}
		d := raw(4, 9, frames(rec(1, 1)), half)
		before, whole := d.Written(), d.All()
		l, ok := wal.Open(d)
		if !ok {
			t.Fatal("P12.1: Open fails")
		}
		check(t, "Open", l, 1, rec(14, 3))
		want := 0
		if end > 21 {
			want = (end-1)/32 + 1
			whole[32*5+end-1] = 0
		}
		if d.Written()-before != 32*want || !bytes.Equal(d.All(), whole) {
			t.Errorf("P12.1: Open with a byte at %d writes %d bytes; want %d", end-1, d.Written()-before, 32*want)
		}
	}
}

// P12.1: Open begins with the sector of the end of the frames, and fails if the disk dies.
func TestOpenDies(t *testing.T) {
	half := make([]byte, 128)
	f := frames(rec(30, 3)) // 37 bytes
	copy(half, f)
	half[40], half[100] = 1, 1
	for n := range 97 {
		d := raw(4, 0, half)
		d.Arm(n)
		l, ok := wal.Open(d)
		if ok != (n == 96) || (l != nil) != ok {
			t.Errorf("P12.1: Open of a disk armed with %d: %v", n, ok)
		}
		if d.Dead() == ok {
			t.Errorf("P12.1: Open of a disk armed with %d: Dead %v", n, d.Dead())
		}
		all := d.All()[32:160]
		want := bytes.Clone(half)
		clear(want[37:max(37, min(32+n, 101))])
		if !bytes.Equal(all, want) {
			t.Errorf("P12.1: Open of a disk armed with %d leaves %v", n, all)
		}
	}
}

// P12.1: a log works on the disk on which it was opened, and Disk is a clone of it.
func TestOpenKeeps(t *testing.T) {
	d := disk.New(5)
	l, _ := wal.Open(d)
	l.Append([]byte{5})
	l.Sync()
	if !bytes.Equal(d.All()[32:40], frames([]byte{5})) || d.Written() != 32 {
		t.Error("P12.1: Sync writes elsewhere")
	}
	c := l.Disk()
	c.Arm(0)
	c.Write(0, make([]byte, 32))
	if d.Dead() {
		t.Error("P2: Disk returns the disk itself")
	}
	d.Arm(0)
	l.Append([]byte{6})
	if e := l.Sync(); e != api.ErrDown || !d.Dead() {
		t.Error("P12.1: Sync does not notice that the disk is armed", e)
	}
}

// P12.1: Swap: what it writes, and in which order.
func TestSwap(t *testing.T) {
	l, _ := wal.Open(raw(2, 6, frames(rec(3, 1)), bytes.Repeat([]byte{9}, 64)))
	l.Append(rec(4, 2))
	before := l.Disk().Written()
	if e := l.Swap(rec(30, 5)); e != api.OK || l.Room() != 64-37 {
		t.Error("P12.1: Swap", e, l.Room())
	}
	check(t, "Swap", l, 1, rec(30, 5))
	all := l.Disk().All()
	if all[0]&1 != 1 || !bytes.Equal(all[32:42], frames(rec(3, 1))) || !bytes.Equal(all[96:133], frames(rec(30, 5))) || !bytes.Equal(all[133:], make([]byte, 27)) {
		t.Error("P12.1: Swap leaves", all)
	}
	if got := l.Disk().Written() - before; got != 160 {
		t.Error("P12.1: Swap writes", got)
	}
	l.Append(rec(2, 7))
	l.Sync()
	if again, ok := wal.Open(l.Disk()); !ok || !equal(again.Records(), [][]byte{rec(30, 5), rec(2, 7)}) {
		t.Error("P12.1: Sync after Swap goes to the wrong half")
	}
	if e := l.Swap(rec(1, 1)); e != api.OK || l.Disk().All()[0]&1 != 0 {
		t.Error("P12.1: a second Swap", e)
	}
	if again, _ := wal.Open(l.Disk()); !equal(again.Records(), [][]byte{rec(1, 1)}) || again.Room() != 56 {
		t.Error("P12.1: Open after a second Swap")
	}
}

// P12.1: the errors of Swap, in order.
func TestSwapErrors(t *testing.T) {
	d := disk.New(5)
	l, _ := wal.Open(d)
	l.Append(rec(3, 1))
	for n, want := range map[int]api.Errno{0: api.ErrRange, 4097: api.ErrLong, 58: api.ErrFull, 4096: api.ErrFull} {
		if e := l.Swap(make([]byte, n)); e != want {
			t.Errorf("P12.1: Swap of %d bytes: %d; want %d", n, e, want)
		}
	}
	d.Arm(0)
	d.Write(0, make([]byte, 32))
	for n, want := range map[int]api.Errno{0: api.ErrRange, 4097: api.ErrLong, 58: api.ErrFull, 57: api.ErrDown} {
		if e := l.Swap(make([]byte, n)); e != want {
			t.Errorf("P12.1: Swap of %d bytes to a dead disk: %d; want %d", n, e, want)
		}
	}
	if e := l.Sync(); e != api.ErrDown {
		t.Error("P12.1: Sync to a dead disk", e)
	}
	check(t, "errors", l, 0, rec(3, 1))
	l, _ = wal.Open(disk.New(5))
	l.Append(rec(50, 1))
	if e := l.Swap(rec(57, 1)); e != api.OK || l.Room() != 0 {
		t.Error("P12.1: Swap compares with the free space instead of the half", e)
	}
	dead := disk.New(3)
	l, _ = wal.Open(dead)
	dead.Arm(0)
	dead.Write(0, make([]byte, 32))
	if e := l.Sync(); e != api.ErrDown {
		t.Error("P12.1: Sync of nothing to a dead disk", e)
	}
}

// P12.2: wherever the disk dies in Sync, what was durable is present, and then a prefix.
func TestSyncDies(t *testing.T) {
	all := [][]byte{rec(3, 1), rec(40, 2), rec(5, 3), rec(20, 4), rec(1, 5)}
	for n := range 200 {
		d := disk.New(17)
		l, _ := wal.Open(d)
		l.Append(all[0])
		l.Append(all[1])
		l.Sync()
		for _, b := range all[2:] {
			l.Append(b)
		}
		d.Arm(n)
		e := l.Sync()
		if e == api.OK {
			check(t, "Sync", l, 5, all...)
		} else {
			check(t, "Sync that fails", l, 2, all...)
		}
		if (e == api.OK) != (n >= 96) || e != api.OK && e != api.ErrDown || d.Dead() == (e == api.OK) {
			t.Fatalf("P12.1: Sync of a disk armed with %d: %d", n, e)
		}
		d.Revive()
		again, ok := wal.Open(d)
		got := again.Records()
		if !ok || len(got) < 2 || !equal(got, all[:len(got)]) || e == api.OK && len(got) != 5 {
			t.Fatalf("P12.2: after a disk armed with %d: %v", n, got)
		}
		used := len(frames(got...))
		if !bytes.Equal(d.All()[32:32+used], frames(got...)) || !bytes.Equal(d.All()[32+used:], make([]byte, 17*32-32-used)) {
			t.Fatalf("P12.2: after a disk armed with %d: Open leaves rests", n)
		}
		again.Append(rec(9, 9))
		again.Sync()
		if third, _ := wal.Open(d); !equal(third.Records(), append(got, rec(9, 9))) {
			t.Fatalf("P12.2: after a disk armed with %d: the log cannot go on", n)
		}
	}
}

// P12.2: wherever the disk dies in Swap, all durable records are present, or the new one alone.
func TestSwapDies(t *testing.T) {
	old := [][]byte{rec(3, 1), rec(40, 2)}
	for n := range 260 {
		d := raw(3, 4, nil, bytes.Repeat([]byte{0xee}, 96))
		l, _ := wal.Open(d)
		l.Append(old[0])
		l.Append(old[1])
		l.Sync()
		l.Append(rec(7, 7))
		d.Arm(n)
		e := l.Swap(rec(45, 6))
		if (e == api.OK) != (n >= 96+64+32) || e != api.OK && e != api.ErrDown {
			t.Fatalf("P12.1: Swap of a disk armed with %d: %d", n, e)
		}
		if e == api.OK {
			check(t, "Swap", l, 1, rec(45, 6))
		} else {
			check(t, "Swap that fails", l, 2, old[0], old[1], rec(7, 7))
		}
		d.Revive()
		again, _ := wal.Open(d)
		want := old
		if n > 96+64 {
			want = [][]byte{rec(45, 6)}
		}
		if got := again.Records(); !equal(got, want) {
			t.Fatalf("P12.2: Swap of a disk armed with %d: %v", n, got)
		}
	}
}

// P2: records are copied in and out.
func TestMemory(t *testing.T) {
	l := wal.New(4)
	b := rec(5, 1)
	l.Append(b)
	b[0] = 99
	got := l.Records()
	got[0][1] = 98
	_ = append(got[0], 97)
	s := rec(3, 9)
	check(t, "memory", l, 0, rec(5, 1))
	l.Append(rec(2, 2))
	got = l.Records()
	_ = append(got[0], 97)
	if !bytes.Equal(got[1], rec(2, 2)) {
		t.Error("P2: two records share memory")
	}
	l.Swap(s)
	s[0] = 1
	check(t, "memory after Swap", l, 1, rec(3, 9))
	l.Sync()
	if again, _ := wal.Open(l.Disk()); !equal(again.Records(), [][]byte{rec(3, 9)}) {
		t.Error("P2: Swap keeps its argument")
	}
}

// P12.1, P1: a nil Log, and one that was not created.
func TestUnmade(t *testing.T) {
	for _, l := range []*wal.Log{nil, new(wal.Log)} {
		if l.Disk() != nil || l.Room() != 0 || l.Append([]byte{1}) != api.ErrState || l.Append(nil) != api.ErrState || l.Sync() != api.ErrState || l.Swap([]byte{1}) != api.ErrState || l.Swap(nil) != api.ErrState || len(l.Records()) != 0 || l.Durable() != 0 || l.Pending() != 0 {
			t.Error("P12.1: an unmade log does something")
		}
	}
}
