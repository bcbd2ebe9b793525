package wire_test

import (
	"bytes"
	"math"
	"testing"

	"countermand/wire"
)

// parcel is what a message on a wire should be.
type parcel struct {
	to     int
	bytes  []byte
	broken bool
}

func check(t *testing.T, name string, w *wire.Wire, want ...parcel) {
	t.Helper()
	if w.Len() != len(want) {
		t.Fatalf("P29.1: %s: %d messages; want %d", name, w.Len(), len(want))
	}
	c := w.Clone()
	for i, p := range want {
		if w.To(i) != p.to || w.Broken(i) != p.broken {
			t.Errorf("P29.1: %s: message %d: To %d, Broken %v", name, i, w.To(i), w.Broken(i))
		}
		if b, ok := c.Take(0); !ok || !bytes.Equal(b, p.bytes) {
			t.Errorf("P29.1: %s: message %d: %v, %v", name, i, b, ok)
		}
	}
}

func three() *wire.Wire {
	w := new(wire.Wire)
	w.Put(1, []byte{1, 2})
	w.Put(9, []byte{3})
	w.Put(-5, nil)
	return w
}

// P29.1: Put, and an index that there is not.
func TestPut(t *testing.T) {
	check(t, "zero value", new(wire.Wire))
	w := three()
	check(t, "three", w, parcel{to: 1, bytes: []byte{1, 2}}, parcel{to: 9, bytes: []byte{3}}, parcel{to: -5})
	for _, i := range []int{-1, 3, math.MaxInt, math.MinInt} {
		if w.To(i) != -1 || w.Broken(i) || w.Copy(i) || w.Flip(i, 0) {
			t.Errorf("P29.1: there is a message %d", i)
		}
		if b, ok := w.Take(i); ok || len(b) != 0 {
			t.Errorf("P29.1: Take(%d)", i)
		}
	}
	if w.Len() != 3 {
		t.Error("P29.1: a wrong index has an effect")
	}
}

// P29.1: Take from everywhere.
func TestTake(t *testing.T) {
	all := []parcel{{to: 1, bytes: []byte{1, 2}}, {to: 9, bytes: []byte{3}}, {to: -5}}
	for i, p := range all {
		w := three()
		if b, ok := w.Take(i); !ok || !bytes.Equal(b, p.bytes) {
			t.Errorf("P29.1: Take(%d) = %v, %v", i, b, ok)
		}
		rest := append(append([]parcel{}, all[:i]...), all[i+1:]...)
		check(t, "Take", w, rest...)
		if !w.Put(4, []byte{7}) {
			t.Error("P29.1: Put after Take")
		}
		check(t, "Put after Take", w, append(rest, parcel{to: 4, bytes: []byte{7}})...)
	}
}

// P29.1: the greatest number of messages.
func TestFull(t *testing.T) {
	w := new(wire.Wire)
	for i := range 128 {
		if !w.Put(i, []byte{byte(i)}) {
			t.Fatal("P29.1: Put", i)
		}
	}
	if w.Put(1, []byte{1}) || w.Copy(0) || w.Len() != 128 {
		t.Error("P29.1: a 129th message")
	}
	if !w.Flip(127, 0) || !w.Broken(127) {
		t.Error("P29.1: Flip of the last message")
	}
	w.Take(5)
	if !w.Copy(127-1) || w.Len() != 128 || !w.Broken(127) || w.To(127) != 127 {
		t.Error("P29.1: Copy of the last message")
	}
}

// P29.1: Copy appends; copies are independent.
func TestCopy(t *testing.T) {
	w := three()
	if !w.Copy(0) || !w.Flip(0, 3) || !w.Copy(0) {
		t.Error("P29.1: Copy")
	}
	check(t, "Copy", w, parcel{1, []byte{9, 2}, true}, parcel{9, []byte{3}, false}, parcel{to: -5}, parcel{1, []byte{1, 2}, false}, parcel{1, []byte{9, 2}, true})
	if w.Flip(4, 3) || !w.Flip(3, 8) {
		t.Error("P29.1: Flip of copies")
	}
	check(t, "Flip of a copy", w, parcel{1, []byte{9, 2}, true}, parcel{9, []byte{3}, false}, parcel{to: -5}, parcel{1, []byte{1, 3}, true}, parcel{1, []byte{9, 2}, true})
	one := new(wire.Wire)
	one.Put(2, []byte{2})
	if !one.Copy(0) || one.Len() != 2 {
		t.Error("P29.1: the example")
	}
}

// P29.1: Flip of every bit, once.
func TestFlip(t *testing.T) {
	for bit := range 16 {
		w := three()
		if !w.Flip(0, bit) || w.Flip(0, bit) || w.Flip(0, (bit+1)%16) {
			t.Errorf("P29.1: Flip of bit %d", bit)
		}
		want := []byte{1, 2}
		want[bit/8] ^= 1 << (bit % 8)
		check(t, "Flip", w, parcel{1, want, true}, parcel{9, []byte{3}, false}, parcel{to: -5})
	}
	w := three()
	for _, bit := range []int{-1, -8, 16, 17, math.MaxInt, math.MinInt} {
		if w.Flip(0, bit) || w.Broken(0) {
			t.Errorf("P29.1: Flip of bit %d", bit)
		}
	}
	if w.Flip(1, 8) || !w.Flip(1, 7) || w.Flip(2, 0) || w.Broken(2) {
		t.Error("P29.1: Flip of a bit that there is not")
	}
}

// P29.1, P2: clones and bytes are independent.
func TestMemory(t *testing.T) {
	w := new(wire.Wire)
	b := []byte{1, 2}
	w.Put(1, b)
	b[0] = 99
	w.Put(2, []byte{3})
	c := w.Clone()
	c.Flip(0, 0)
	c.Take(1)
	c.Put(7, []byte{7})
	check(t, "original", w, parcel{1, []byte{1, 2}, false}, parcel{2, []byte{3}, false})
	check(t, "clone", c, parcel{1, []byte{0, 2}, true}, parcel{7, []byte{7}, false})
	w.Copy(0)
	got, _ := w.Take(0)
	got[0] = 98
	check(t, "after Take", w, parcel{2, []byte{3}, false}, parcel{1, []byte{1, 2}, false})
}

// P29.1, P1: a nil Wire.
func TestNil(t *testing.T) {
	var w *wire.Wire
	if w.Put(1, []byte{1}) || w.Len() != 0 || w.To(0) != -1 || w.Copy(0) || w.Flip(0, 0) || w.Broken(0) || w.Clone() != nil {
		t.Error("P29.1: a nil Wire does something")
	}
	if b, ok := w.Take(0); ok || len(b) != 0 {
		t.Error("P29.1: Take from nil")
	}
	if c := new(wire.Wire).Clone(); c == nil || !c.Put(1, nil) {
		t.Error("P29.1: Clone of the zero value")
	}
}
