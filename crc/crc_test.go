package crc_test

import (
	"bytes"
	"hash/crc32"
	"testing"

	"countermand/crc"
)

func sample(n int) []byte {
	b := make([]byte, n)
	for i := range b {
		b[i] = byte(i*i*7 + i*31 + 5)
	}
	return b
}

// P3.1: Sum, compared with another implementation.
func TestSum(t *testing.T) {
	if crc.Sum([]byte("123456789")) != 0xcbf43926 || crc.Sum() != 0 || crc.Sum(nil) != 0 || crc.Sum(nil, nil) != 0 {
		t.Error("P3.1: the examples of Sum")
	}
	for n := 0; n < 600; n += 1 + n/16 {
		b := sample(n)
		if got, want := crc.Sum(b), crc32.ChecksumIEEE(b); got != want {
			t.Errorf("P3.1: Sum of %d bytes = %#x; want %#x", n, got, want)
		}
	}
	for x := range 256 {
		b := []byte{byte(x)}
		if crc.Sum(b) != crc32.ChecksumIEEE(b) {
			t.Errorf("P3.1: Sum of the byte %d", x)
		}
	}
}

// P3.1: the parts of Sum are concatenated, in order; More continues.
func TestParts(t *testing.T) {
	b := sample(50)
	want := crc.Sum(b)
	for i := range b {
		for j := i; j <= len(b); j += 7 {
			if crc.Sum(b[:i], b[i:j], nil, b[j:]) != want {
				t.Fatalf("P3.1: Sum of parts cut at %d and %d", i, j)
			}
		}
		if crc.More(crc.Sum(b[:i]), b[i:]) != want {
			t.Fatalf("P3.1: More at %d", i)
		}
	}
	if crc.More(0, b) != want || crc.More(want, nil) != want || crc.More(0xffffffff, nil) != 0xffffffff {
		t.Error("P3.1: More from or with nothing")
	}
	if crc.Sum(b[25:], b[:25]) == want {
		t.Error("P3.1: Sum ignores the order of its parts")
	}
}

// P3.1: Put appends the checksum big-endian, Check removes it.
func TestPutCheck(t *testing.T) {
	if got := crc.Put([]byte("123456789")); !bytes.Equal(got, []byte("123456789\xcb\xf4\x39\x26")) {
		t.Errorf("P3.1: Put = %x", got)
	}
	if got := crc.Put(nil); !bytes.Equal(got, []byte{0, 0, 0, 0}) {
		t.Errorf("P3.1: Put(nil) = %x", got)
	}
	for n := 0; n < 40; n++ {
		got, ok := crc.Check(crc.Put(sample(n)))
		if !ok || !bytes.Equal(got, sample(n)) {
			t.Errorf("P3.1: Check of %d bytes that were put: %x, %v", n, got, ok)
		}
	}
}

// P3.1: what Check rejects.
func TestCheckRejects(t *testing.T) {
	whole := crc.Put(sample(9))
	wrong := [][]byte{nil, {}, {0}, {0, 0, 0}, {0, 0, 0, 1}, {1, 0, 0, 0}, whole[:len(whole)-1], whole[1:], append(bytes.Clone(whole), 0)}
	reversed := bytes.Clone(whole)
	for i := range 4 {
		reversed[9+i] = whole[12-i]
	}
	for _, b := range append(wrong, reversed) {
		if got, ok := crc.Check(b); ok || len(got) != 0 {
			t.Errorf("P3.1: Check(%x) = %x, %v", b, got, ok)
		}
	}
	if got, ok := crc.Check([]byte{0, 0, 0, 0}); !ok || len(got) != 0 {
		t.Error("P3.1: Check of the checksum of nothing")
	}
}

// P3.2: one inverted bit changes the checksum, and Check notices it everywhere.
func TestBits(t *testing.T) {
	for _, n := range []int{1, 2, 33} {
		b := crc.Put(sample(n))
		sum := crc.Sum(sample(n))
		for bit := range 8 * len(b) {
			b[bit/8] ^= 1 << (bit % 8)
			if bit/8 < n && crc.Sum(b[:n]) == sum {
				t.Errorf("P3.2: inverting bit %d of %d bytes does not change the checksum", bit, n)
			}
			if got, ok := crc.Check(b); ok || len(got) != 0 {
				t.Errorf("P3.2: Check overlooks bit %d", bit)
			}
			b[bit/8] ^= 1 << (bit % 8)
		}
	}
}

// P2: no memory is shared with an argument, and none is written.
func TestMemory(t *testing.T) {
	store := make([]byte, 5, 20)
	copy(store, "abcde")
	put := crc.Put(store)
	put[0] = 'x'
	if string(store[:9]) != "abcde\x00\x00\x00\x00" {
		t.Errorf("P2: Put wrote to its argument: %q", store[:9])
	}
	whole := crc.Put([]byte("abcde"))
	saved := bytes.Clone(whole)
	body, _ := crc.Check(whole)
	body[0] = 'x'
	_ = append(body, 'y')
	if !bytes.Equal(whole, saved) {
		t.Error("P2: the result of Check shares memory with its argument")
	}
}
