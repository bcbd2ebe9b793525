package octet_test

import (
	"bytes"
	"encoding/binary"
	"math"
	"testing"

	"countermand/octet"
)

// P2.1: n modulo 256^w in w big-endian bytes behind b.
func TestPut(t *testing.T) {
	numbers := []uint64{0, 1, 255, 256, 258, 65535, 65536, 0x0102030405060708, 1 << 63, math.MaxUint64, 0xfedcba9876543210}
	for _, n := range numbers {
		var whole [8]byte
		binary.BigEndian.PutUint64(whole[:], n)
		for w := 1; w <= 8; w++ {
			want := append([]byte{7, 9}, whole[8-w:]...)
			if got := octet.Put([]byte{7, 9}, n, w); !bytes.Equal(got, want) {
				t.Errorf("P2.1: Put(7 9, %#x, %d) = %v; want %v", n, w, got, want)
			}
		}
	}
	if got := octet.Put(nil, 258, 2); !bytes.Equal(got, []byte{1, 2}) {
		t.Errorf("P2.1: Put(nil, 258, 2) = %v", got)
	}
}

// P2.1: b alone for a wrong width.
func TestPutWidth(t *testing.T) {
	for _, w := range []int{0, -1, 9, 16, 64, math.MaxInt, math.MinInt} {
		if got := octet.Put([]byte{3, 4}, 77, w); !bytes.Equal(got, []byte{3, 4}) {
			t.Errorf("P2.1: Put with width %d = %v", w, got)
		}
		if got := octet.Put(nil, 77, w); len(got) != 0 {
			t.Errorf("P2.1: Put(nil) with width %d = %v", w, got)
		}
	}
}

// P2: Put neither writes behind its argument nor hands it out.
func TestPutMemory(t *testing.T) {
	store := []byte{1, 2, 3, 4}
	for _, w := range []int{1, 2, 0, 9} {
		got := octet.Put(store[:2], 0xaabb, w)
		got[0] = 99
		_ = append(got[:2], 98)
		if !bytes.Equal(store, []byte{1, 2, 3, 4}) {
			t.Fatalf("P2: Put with width %d changed its argument: %v", w, store)
		}
	}
}

// P2.2: reading in order, and what Left and Done tell meanwhile.
func TestReader(t *testing.T) {
	r := octet.New([]byte{1, 2, 3, 4, 5, 6})
	if r.Left() != 6 || r.Done() || r.Bad() {
		t.Fatal("P2.2: a new reader")
	}
	if n, ok := r.Take(2); n != 258 || !ok || r.Left() != 4 {
		t.Error("P2.2: Take(2)", n, ok, r.Left())
	}
	if b, ok := r.Bytes(3); !bytes.Equal(b, []byte{3, 4, 5}) || !ok || r.Left() != 1 {
		t.Error("P2.2: Bytes(3)", b, ok, r.Left())
	}
	if b, ok := r.Bytes(0); len(b) != 0 || !ok || r.Left() != 1 || r.Done() || r.Bad() {
		t.Error("P2.2: Bytes(0)", b, ok)
	}
	if n, ok := r.Take(1); n != 6 || !ok || !r.Done() || r.Bad() || r.Left() != 0 {
		t.Error("P2.2: Take(1)", n, ok)
	}
	if b, ok := r.Bytes(0); len(b) != 0 || !ok || !r.Done() {
		t.Error("P2.2: Bytes(0) at the end", b, ok)
	}
}

// P2.2: what makes a reader fail, and that it stays so.
func TestReaderFails(t *testing.T) {
	reads := map[string]func(r *octet.Reader) bool{
		"Take(5)":    func(r *octet.Reader) bool { n, ok := r.Take(5); return n == 0 && !ok },
		"Take(0)":    func(r *octet.Reader) bool { n, ok := r.Take(0); return n == 0 && !ok },
		"Take(-1)":   func(r *octet.Reader) bool { n, ok := r.Take(-1); return n == 0 && !ok },
		"Take(9)":    func(r *octet.Reader) bool { n, ok := r.Take(9); return n == 0 && !ok },
		"Bytes(5)":   func(r *octet.Reader) bool { b, ok := r.Bytes(5); return len(b) == 0 && !ok },
		"Bytes(-1)":  func(r *octet.Reader) bool { b, ok := r.Bytes(-1); return len(b) == 0 && !ok },
		"Bytes(max)": func(r *octet.Reader) bool { b, ok := r.Bytes(math.MaxInt); return len(b) == 0 && !ok },
	}
	for name, read := range reads {
		r := octet.New([]byte{1, 2, 3, 4})
		if !read(r) {
			t.Errorf("P2.2: %s does not fail", name)
		}
		checkFailed(t, name, r)
	}
	r := octet.New(make([]byte, 20))
	if n, ok := r.Take(9); n != 0 || ok {
		t.Error("P2.2: Take(9) with enough bytes")
	}
	checkFailed(t, "Take(9) of 20", r)
	r = octet.New(nil)
	if !r.Done() || r.Bad() || r.Left() != 0 {
		t.Error("P2.2: a reader of nothing is done")
	}
	if _, ok := r.Take(1); ok || r.Done() {
		t.Error("P2.2: Take(1) of nothing")
	}
	checkFailed(t, "of nothing", r)
}

func checkFailed(t *testing.T, name string, r *octet.Reader) {
	t.Helper()
	if !r.Bad() || r.Done() || r.Left() != 0 {
		t.Errorf("P2.2: after %s: Bad %v, Done %v, Left %d", name, r.Bad(), r.Done(), r.Left())
	}
	if n, ok := r.Take(1); n != 0 || ok {
		t.Errorf("P2.2: after %s: Take succeeds", name)
	}
	if b, ok := r.Bytes(1); len(b) != 0 || ok {
		t.Errorf("P2.2: after %s: Bytes succeeds", name)
	}
	if b, ok := r.Bytes(0); len(b) != 0 || ok {
		t.Errorf("P2.2: after %s: Bytes(0) succeeds", name)
	}
	if !r.Bad() || r.Done() || r.Left() != 0 {
		t.Errorf("P2.2: after %s and more reads: not failed", name)
	}
}

// P2.2, P1: a nil Reader, and one that New did not create.
func TestReaderUnmade(t *testing.T) {
	checkFailed(t, "nil", nil)
	checkFailed(t, "zero value", new(octet.Reader))
	if n, ok := (*octet.Reader)(nil).Take(0); n != 0 || ok {
		t.Error("P2.2: Take(0) of nil")
	}
	if _, ok := (*octet.Reader)(nil).Bytes(-1); ok {
		t.Error("P2.2: Bytes(-1) of nil")
	}
}

// P2: a Reader keeps a copy, and what it returns is new memory.
func TestReaderMemory(t *testing.T) {
	b := []byte{1, 2, 3, 4}
	r := octet.New(b)
	b[0], b[2] = 9, 9
	got, _ := r.Bytes(2)
	if !bytes.Equal(got, []byte{1, 2}) {
		t.Error("P2: New keeps its argument", got)
	}
	got[0] = 7
	_ = append(got, 8)
	if n, _ := r.Take(2); n != 3<<8+4 {
		t.Error("P2: a result of Bytes shares memory with the reader", n)
	}
}

// P2.3: values that were put are read unchanged.
func TestRoundTrip(t *testing.T) {
	var b []byte
	value := func(w int) uint64 { return (0x9e3779b97f4a7c15 * uint64(w)) >> (64 - 8*w) }
	for w := 1; w <= 8; w++ {
		b = octet.Put(b, value(w), w)
	}
	r := octet.New(b)
	for w := 1; w <= 8; w++ {
		if n, ok := r.Take(w); n != value(w) || !ok {
			t.Errorf("P2.3: width %d: %#x, %v; want %#x", w, n, ok, value(w))
		}
	}
	if !r.Done() {
		t.Error("P2.3: bytes are left")
	}
}
