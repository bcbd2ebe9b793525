package change_test

import (
	"bytes"
	"math"
	"slices"
	"testing"

	"countermand/api"
	"countermand/change"
)

func sample(i int) api.Change {
	return api.Change{Id: api.Id{Replica: i % 4, Seq: 1 + i*257%65535}, Time: 1 + i*77777, Kind: i % 256, A: (i * 3) % 256, B: (i * 5) % 256, N: int64(i) * -987654321987, Ref: api.Id{Replica: (i * 7) % 256, Seq: i * 11 % 65536}}
}

var whole = api.Change{Id: api.Id{Replica: 2, Seq: 0x0102}, Time: 0x03040506, Kind: 7, A: 8, B: 9, N: 0x0a0b0c0d0e0f1011, Ref: api.Id{Replica: 0x12, Seq: 0x1314}}

// P9.1: the encoding, byte by byte.
func TestPut(t *testing.T) {
	want := []byte{2, 1, 2, 3, 4, 5, 6, 7, 8, 9, 10, 11, 12, 13, 14, 15, 16, 17, 0x12, 0x13, 0x14, 0x43}
	if got, e := change.Put(whole); e != api.OK || !bytes.Equal(got, want) {
		t.Errorf("P9.1: Put = %v, %d", got, e)
	}
	c := whole
	c.N = -2
	copy(want[10:], []byte{255, 255, 255, 255, 255, 255, 255, 254})
	if got, e := change.Put(c); e != api.OK || !bytes.Equal(got, want) {
		t.Errorf("P9.1: Put of a negative N = %v, %d", got, e)
	}
}

// edit describes a change of one field, and whether the change is valid then.
type edit struct {
	name string
	set  func(c *api.Change)
	fine bool
}

func edits() []edit {
	var l []edit
	add := func(name string, set func(c *api.Change, n int), lo, hi int) {
		for n, fine := range map[int]bool{lo: true, hi: true, lo - 1: false, hi + 1: false, math.MaxInt: false, math.MinInt: false, (lo + hi) / 2: true} {
			l = append(l, edit{name, func(c *api.Change) { set(c, n) }, fine})
		}
	}
	add("Id.Replica", func(c *api.Change, n int) { c.Id.Replica = n }, 0, 3)
	add("Id.Seq", func(c *api.Change, n int) { c.Id.Seq = n }, 1, 65535)
	add("Time", func(c *api.Change, n int) { c.Time = n }, 1, api.MaxTime)
	add("Kind", func(c *api.Change, n int) { c.Kind = n }, 0, 255)
	add("A", func(c *api.Change, n int) { c.A = n }, 0, 255)
	add("B", func(c *api.Change, n int) { c.B = n }, 0, 255)
	add("Ref.Replica", func(c *api.Change, n int) { c.Ref.Replica = n }, 0, 255)
	add("Ref.Seq", func(c *api.Change, n int) { c.Ref.Seq = n }, 0, 65535)
	for _, n := range []int64{0, 1, -1, math.MaxInt64, math.MinInt64} {
		l = append(l, edit{"N", func(c *api.Change) { c.N = n }, true})
	}
	return l
}

// P9.1, P9.2: the bounds of every field; what is valid is decoded unchanged.
func TestBounds(t *testing.T) {
	for _, x := range edits() {
		c := whole
		x.set(&c)
		want := api.OK
		if !x.fine {
			want = api.ErrRange
		}
		if e := change.Check(c); e != want {
			t.Errorf("P9.1: Check with %s: %v: %d; want %d", x.name, c, e, want)
		}
		b, e := change.Put(c)
		if e != want || (e != api.OK) != (len(b) == 0) {
			t.Errorf("P9.1: Put with %s: %d bytes, %d", x.name, len(b), e)
		}
		if x.fine {
			if got, e := change.Get(b); got != c || e != api.OK || len(b) != 22 {
				t.Errorf("P9.2: %v is decoded as %v, %d", c, got, e)
			}
		}
	}
	if e := change.Check(api.Change{}); e != api.ErrRange {
		t.Error("P9.1: Check of the zero value", e)
	}
}

func rejects(t *testing.T, name string, b []byte) {
	t.Helper()
	if c, e := change.Get(b); e != api.ErrSyntax || c != (api.Change{}) {
		t.Errorf("P9.1: Get of %s: %v, %d", name, c, e)
	}
}

// P9.1: what Get rejects.
func TestGetRejects(t *testing.T) {
	b, _ := change.Put(whole)
	rejects(t, "nil", nil)
	for i := range b {
		rejects(t, "a prefix", b[:i])
	}
	rejects(t, "a longer text", append(bytes.Clone(b), 0))
	rejects(t, "two changes", append(bytes.Clone(b), b...))
	for at, x := range map[int]byte{0: 4, 21: 0x44, 3: 0x80} {
		c := bytes.Clone(b)
		c[at] = x
		rejects(t, "a wrong byte", c)
	}
	c := bytes.Clone(b)
	c[1], c[2] = 0, 0
	rejects(t, "a Seq of 0", c)
	c = bytes.Clone(b)
	copy(c[3:], []byte{0, 0, 0, 0})
	rejects(t, "a Time of 0", c)
	copy(c[3:], []byte{0x40, 0, 0, 1})
	rejects(t, "a Time above MaxTime", c)
	copy(c[3:], []byte{0x40, 0, 0, 0})
	if got, e := change.Get(c); e != api.OK || got.Time != api.MaxTime {
		t.Error("P9.1: Get of MaxTime", got, e)
	}
}

// P9.2: every byte string that is decoded is encoded as the same bytes.
func TestBytes(t *testing.T) {
	b, _ := change.Put(whole)
	for i := range b {
		for x := range 256 {
			c := bytes.Clone(b)
			c[i] = byte(x)
			got, e := change.Get(c)
			if e != api.OK {
				continue
			}
			if again, e := change.Put(got); e != api.OK || !bytes.Equal(again, c) {
				t.Fatalf("P9.2: byte %d = %d: encoded as %v", i, x, again)
			}
		}
	}
}

func list(n int) []api.Change {
	var l []api.Change
	for i := range n {
		l = append(l, sample(i))
	}
	return l
}

// P9.1, P9.2: lists.
func TestLists(t *testing.T) {
	for _, n := range []int{0, 1, 2, 47, 48} {
		l := list(n)
		want := []byte{byte(n)}
		for _, c := range l {
			b, _ := change.Put(c)
			want = append(want, b...)
		}
		b, e := change.All(l)
		if e != api.OK || !bytes.Equal(b, want) {
			t.Errorf("P9.1: All of %d changes: %d", n, e)
		}
		if got, e := change.List(b); e != api.OK || !slices.Equal(got, l) {
			t.Errorf("P9.2: List of %d changes: %v, %d", n, got, e)
		}
	}
}

// P9.1: the errors of All, in order.
func TestAllErrors(t *testing.T) {
	l := list(49)
	if b, e := change.All(l); e != api.ErrCount || len(b) != 0 {
		t.Error("P9.1: All of 49 changes", len(b), e)
	}
	l[0].Time = 0
	if b, e := change.All(l); e != api.ErrCount || len(b) != 0 {
		t.Error("P9.1: All of 49 changes, one of them wrong", len(b), e)
	}
	for _, i := range []int{0, 5, 47} {
		l = list(48)
		l[i].A = 256
		if b, e := change.All(l); e != api.ErrRange || len(b) != 0 {
			t.Error("P9.1: All with a wrong change at", i, len(b), e)
		}
	}
}

// P9.1: what List rejects.
func TestListRejects(t *testing.T) {
	two, _ := change.All(list(2))
	full, _ := change.All(list(48))
	one, _ := change.Put(sample(48))
	more := append(append([]byte{49}, full[1:]...), one...)
	wrong := [][]byte{nil, {1}, {0, 0}, {255}, two[:len(two)-1], append(bytes.Clone(two), 0), two[1:], more, append([]byte{1}, two[1:]...), append([]byte{3}, two[1:]...)}
	bad := bytes.Clone(two)
	bad[44] = 0
	for _, b := range append(wrong, bad) {
		if l, e := change.List(b); e != api.ErrSyntax || len(l) != 0 {
			t.Errorf("P9.1: List of %d bytes: %v, %d", len(b), l, e)
		}
	}
}
