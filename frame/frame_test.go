package frame_test

import (
	"bytes"
	"hash/crc32"
	"math"
	"testing"

	"countermand/api"
	"countermand/frame"
)

func sample(n int) []byte {
	b := make([]byte, n)
	for i := range b {
		b[i] = byte(i*13 + 1)
	}
	return b
}

func must(t *testing.T, b []byte) []byte {
	t.Helper()
	f, e := frame.Put(b)
	if e != api.OK {
		t.Fatalf("P4.1: Put of %d bytes: %d", len(b), e)
	}
	return f
}

// P4.1: the parts of a frame.
func TestPut(t *testing.T) {
	for _, n := range []int{1, 2, 5, 255, 256, 300, 4095, 4096} {
		b := sample(n)
		sum := crc32.ChecksumIEEE(b)
		want := append([]byte{byte(n >> 8), byte(n)}, b...)
		want = append(want, byte(sum>>24), byte(sum>>16), byte(sum>>8), byte(sum), 0x5a)
		if got := must(t, b); !bytes.Equal(got, want) {
			t.Errorf("P4.1: the frame of %d bytes is wrong", n)
		}
	}
	if got := must(t, []byte{7}); len(got) != 8 {
		t.Error("P4.1: the frame of one byte has", len(got))
	}
}

// P4.1: payloads without a frame.
func TestPutErrors(t *testing.T) {
	for n, want := range map[int]api.Errno{0: api.ErrRange, 4097: api.ErrLong, 65536: api.ErrLong, 65537: api.ErrLong} {
		if got, e := frame.Put(make([]byte, n)); e != want || len(got) != 0 {
			t.Errorf("P4.1: Put of %d bytes: %d bytes, %d; want %d", n, len(got), e, want)
		}
	}
	if got, e := frame.Put(nil); e != api.ErrRange || len(got) != 0 {
		t.Error("P4.1: Put(nil)", e)
	}
}

// P4.1: Size agrees with Put and is 0 where there is no frame.
func TestSize(t *testing.T) {
	for _, n := range []int{1, 2, 100, 4095, 4096} {
		if frame.Size(n) != n+7 || frame.Size(n) != len(must(t, sample(n))) {
			t.Errorf("P4.1: Size(%d) = %d", n, frame.Size(n))
		}
	}
	for _, n := range []int{0, -1, -8, 4097, math.MaxInt, math.MinInt} {
		if frame.Size(n) != 0 {
			t.Errorf("P4.1: Size(%d) = %d", n, frame.Size(n))
		}
	}
}

// P4.1: Get reads the first frame and ignores what follows.
func TestGet(t *testing.T) {
	for _, n := range []int{1, 2, 77, 256, 4096} {
		f := must(t, sample(n))
		for _, tail := range [][]byte{nil, {0}, {1, 2, 3}, f} {
			payload, size, ok := frame.Get(append(bytes.Clone(f), tail...))
			if !ok || size != len(f) || !bytes.Equal(payload, sample(n)) {
				t.Errorf("P4.1: Get of %d bytes, then %d: %d, %v", n, len(tail), size, ok)
			}
		}
	}
}

func checkNone(t *testing.T, name string, b []byte) {
	t.Helper()
	if payload, size, ok := frame.Get(b); ok || size != 0 || len(payload) != 0 {
		t.Errorf("P4.1: Get of %s: %d bytes, %d, %v", name, len(payload), size, ok)
	}
	if l, n := frame.All(b); len(l) != 0 || n != 0 {
		t.Errorf("P4.1: All of %s: %d payloads, %d", name, len(l), n)
	}
}

// P4.1: bytes that do not begin with a frame.
func TestGetRejects(t *testing.T) {
	f := must(t, sample(20))
	checkNone(t, "nil", nil)
	for i := range f {
		checkNone(t, "a shortened frame", f[:i])
		for bit := range 8 {
			g := bytes.Clone(f)
			g[i] ^= 1 << bit
			checkNone(t, "a frame with an inverted bit", g)
		}
	}
	checkNone(t, "a length of zero", []byte{0, 0, 0, 0, 0, 0, 0x5a})
	long := append([]byte{0x10, 0x01}, sample(4097)...)
	sum := crc32.ChecksumIEEE(long[2:])
	long = append(long, byte(sum>>24), byte(sum>>16), byte(sum>>8), byte(sum), 0x5a)
	checkNone(t, "a payload that is too long", long)
	checkNone(t, "what precedes a frame", append([]byte{0}, f...))
}

// P4.1: All reads consecutive frames up to the first fault.
func TestAll(t *testing.T) {
	var b []byte
	for _, n := range []int{3, 1, 500, 1} {
		b = append(b, must(t, sample(n))...)
	}
	for _, tail := range [][]byte{nil, {0}, {0, 1, 9}, make([]byte, 40)} {
		l, n := frame.All(append(bytes.Clone(b), tail...))
		if len(l) != 4 || n != len(b) || !bytes.Equal(l[0], sample(3)) || !bytes.Equal(l[1], sample(1)) || !bytes.Equal(l[2], sample(500)) || !bytes.Equal(l[3], sample(1)) {
			t.Errorf("P4.1: All: %d payloads, %d bytes", len(l), n)
		}
	}
	gap := append(append(must(t, sample(2)), 0), must(t, sample(3))...)
	if l, n := frame.All(gap); len(l) != 1 || n != 9 {
		t.Errorf("P4.1: All reads across a gap: %d, %d", len(l), n)
	}
}

// P4.2: after a cut at every place, exactly the complete frames are found.
func TestCut(t *testing.T) {
	var b []byte
	var ends []int
	for _, n := range []int{4, 1, 30, 2} {
		b = append(b, must(t, make([]byte, n))...)
		ends = append(ends, len(b))
	}
	for at := range len(b) + 1 {
		c := make([]byte, len(b)+64)
		copy(c, b[:at])
		count, total := 0, 0
		for _, e := range ends {
			if e <= at {
				count, total = count+1, e
			}
		}
		if l, n := frame.All(c); len(l) != count || n != total {
			t.Errorf("P4.2: cut at %d: %d frames, %d bytes; want %d, %d", at, len(l), n, count, total)
		}
	}
}

// P2: results share no memory with arguments or each other.
func TestMemory(t *testing.T) {
	b := sample(3)
	f := must(t, b)
	f[2] = 99
	if b[0] != 1 {
		t.Error("P2: Put shares memory")
	}
	f = append(must(t, sample(3)), must(t, sample(4))...)
	saved := bytes.Clone(f)
	payload, _, _ := frame.Get(f)
	payload[0] = 99
	_ = append(payload, 98)
	l, _ := frame.All(f)
	l[0][1] = 97
	_ = append(l[0], 96)
	if !bytes.Equal(f, saved) || !bytes.Equal(l[1], sample(4)) {
		t.Error("P2: Get or All shares memory")
	}
}
