package disk_test

import (
	"bytes"
	"math"
	"testing"

	"countermand/disk"
)

func fill(x byte) []byte { return bytes.Repeat([]byte{x}, 32) }

func ramp(x byte) []byte {
	b := make([]byte, 32)
	for i := range b {
		b[i] = x + byte(i)
	}
	return b
}

// P11.1: a new disk.
func TestNew(t *testing.T) {
	for n, want := range map[int]int{0: 0, 1: 1, 3: 3, 255: 255, 256: 256, 257: 256, math.MaxInt: 256, -1: 0, math.MinInt: 0} {
		d := disk.New(n)
		if d.Len() != want || d.Dead() || d.Written() != 0 || !bytes.Equal(d.All(), make([]byte, 32*want)) {
			t.Errorf("P11.1: New(%d): Len %d", n, d.Len())
		}
		if c := d.Clone(); c == nil || c.Len() != want {
			t.Errorf("P11.1: Clone of New(%d)", n)
		}
		if b, ok := d.Read(want); ok || len(b) != 0 {
			t.Errorf("P11.1: New(%d) has sector %d", n, want)
		}
	}
}

// P11.1: Read and Write, and what they reject.
func TestReadWrite(t *testing.T) {
	d := disk.New(3)
	if !d.Write(1, ramp(1)) || !d.Write(2, ramp(100)) || !d.Write(1, ramp(7)) || d.Written() != 96 {
		t.Error("P11.1: Write", d.Written())
	}
	for i, want := range [][]byte{fill(0), ramp(7), ramp(100)} {
		if b, ok := d.Read(i); !ok || !bytes.Equal(b, want) {
			t.Errorf("P11.1: Read(%d) = %v, %v", i, b, ok)
		}
	}
	if want := append(append(fill(0), ramp(7)...), ramp(100)...); !bytes.Equal(d.All(), want) {
		t.Error("P11.1: All", d.All())
	}
	before := d.All()
	for _, i := range []int{-1, 3, 4, math.MaxInt, math.MinInt} {
		if d.Write(i, ramp(1)) {
			t.Errorf("P11.1: Write to sector %d", i)
		}
		if b, ok := d.Read(i); ok || len(b) != 0 {
			t.Errorf("P11.1: Read of sector %d", i)
		}
	}
	for _, n := range []int{0, 1, 31, 33, 64} {
		if d.Write(0, bytes.Repeat([]byte{5}, n)) {
			t.Errorf("P11.1: Write of %d bytes", n)
		}
	}
	if d.Write(0, nil) || !bytes.Equal(d.All(), before) || d.Written() != 96 || d.Dead() {
		t.Error("P11.1: a rejected Write had an effect")
	}
}

// P11.1, P11.2: the example, and every other number of bytes.
func TestArm(t *testing.T) {
	for n := 0; n <= 97; n++ {
		d := disk.New(4)
		for i := range 4 {
			d.Write(i, fill(9))
		}
		d.Arm(n)
		want := bytes.Repeat([]byte{9}, 128)
		left, alive := n, true
		for i := range 3 {
			ok := d.Write(i, ramp(byte(50*i)))
			if fits := left >= 32; alive && ok != fits || !alive && ok {
				t.Fatalf("P11.1: armed with %d: write %d: %v", n, i, ok)
			}
			if alive {
				k := min(left, 32)
				copy(want[32*i:], ramp(byte(50 * i))[:k])
				left, alive = left-k, k == 32
			}
			if d.Dead() == alive {
				t.Fatalf("P11.1: armed with %d: after write %d: Dead %v", n, i, !alive)
			}
		}
		if !bytes.Equal(d.All(), want) {
			t.Fatalf("P11.2: armed with %d: %v", n, d.All())
		}
		if d.Written() != 128+min(n, 96) {
			t.Fatalf("P11.1: armed with %d: Written %d", n, d.Written())
		}
	}
}

// P11.1: writes that are rejected use up nothing.
func TestArmRejected(t *testing.T) {
	d := disk.New(2)
	d.Arm(32)
	if d.Write(2, ramp(1)) || d.Write(-1, ramp(1)) || d.Write(0, ramp(1)[:31]) || d.Write(0, append(ramp(1), 1)) || d.Dead() {
		t.Error("P11.1: a rejected Write kills the disk")
	}
	if !d.Write(0, ramp(1)) || d.Dead() || d.Write(1, ramp(1)) || !d.Dead() {
		t.Error("P11.1: a rejected Write uses up bytes")
	}
}

// P11.1: arming again replaces, a negative number disarms.
func TestArmAgain(t *testing.T) {
	d := disk.New(2)
	d.Arm(1)
	d.Arm(64)
	if !d.Write(0, ramp(1)) || !d.Write(1, ramp(1)) {
		t.Error("P11.1: Arm does not replace the number")
	}
	for _, n := range []int{-1, -5, math.MinInt} {
		d.Arm(0)
		d.Arm(n)
		if !d.Write(0, ramp(1)) || !d.Write(0, ramp(1)) || d.Dead() {
			t.Errorf("P11.1: Arm(%d) does not disarm", n)
		}
	}
	d.Arm(math.MaxInt)
	if !d.Write(0, ramp(1)) {
		t.Error("P11.1: Arm with the greatest number")
	}
}

// P11.1: a dead disk, and its revival.
func TestDead(t *testing.T) {
	d := disk.New(2)
	d.Write(1, ramp(3))
	d.Arm(0)
	if d.Dead() || d.Write(0, ramp(1)) || !d.Dead() {
		t.Error("P11.1: a disk that is armed with 0 bytes")
	}
	all := d.All()
	if b, ok := d.Read(1); ok || len(b) != 0 {
		t.Error("P11.1: Read of a dead disk")
	}
	if d.Write(1, ramp(1)) || d.Written() != 32 || d.Len() != 2 || !bytes.Equal(all, append(fill(0), ramp(3)...)) || !bytes.Equal(d.All(), all) {
		t.Error("P11.1: Write to a dead disk")
	}
	d.Arm(-1)
	if !d.Dead() {
		t.Error("P11.1: Arm revives")
	}
	d.Arm(5)
	d.Revive()
	if d.Dead() || !d.Write(0, ramp(1)) || !d.Write(0, ramp(1)) {
		t.Error("P11.1: a dead disk was armed, or Revive does not disarm")
	}
	d.Arm(5)
	d.Revive()
	if !d.Write(0, ramp(1)) || d.Dead() {
		t.Error("P11.1: Revive does not disarm")
	}
	d.Arm(5)
	d.Write(0, ramp(9))
	d.Revive()
	if !d.Write(1, ramp(9)) || d.Dead() {
		t.Error("P11.1: a disk that died is still armed")
	}
}

// P11.1, P2: clones are independent and complete.
func TestClone(t *testing.T) {
	d := disk.New(2)
	d.Write(0, ramp(1))
	d.Arm(40)
	c := d.Clone()
	if c.Written() != 32 || !bytes.Equal(c.All(), d.All()) {
		t.Error("P11.1: Clone copies not all")
	}
	if !c.Write(0, fill(8)) || c.Write(1, fill(8)) || !c.Dead() || d.Dead() {
		t.Error("P11.1: Clone is not armed alike")
	}
	if b, _ := d.Read(0); !bytes.Equal(b, ramp(1)) || d.Written() != 32 {
		t.Error("P2: Clone shares sectors")
	}
	if !d.Write(1, ramp(2)) || d.Dead() {
		t.Error("P2: Clone shares the number of bytes")
	}
	e := c.Clone()
	if !e.Dead() {
		t.Error("P11.1: Clone of a dead disk is alive")
	}
	e.Revive()
	if !c.Dead() {
		t.Error("P2: reviving a clone revives the disk")
	}
}

// P2: bytes are copied in and out.
func TestMemory(t *testing.T) {
	d := disk.New(2)
	b := ramp(1)
	d.Write(0, b)
	b[0] = 99
	r, _ := d.Read(0)
	r[1] = 98
	_ = append(r, 97)
	d.All()[2] = 96
	if got, _ := d.Read(0); !bytes.Equal(got, ramp(1)) {
		t.Error("P2: a disk shares memory", got)
	}
}

// P11.1, P1: a nil Disk, and one that New did not create.
func TestUnmade(t *testing.T) {
	for _, d := range []*disk.Disk{nil, new(disk.Disk)} {
		d.Arm(0)
		d.Revive()
		if d.Write(0, ramp(1)) || d.Len() != 0 || d.Dead() || d.Written() != 0 || len(d.All()) != 0 || d.Clone() != nil {
			t.Error("P11.1: an unmade disk does something")
		}
		if b, ok := d.Read(0); ok || len(b) != 0 {
			t.Error("P11.1: an unmade disk is read")
		}
	}
}
