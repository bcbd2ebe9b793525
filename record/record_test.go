package record_test

import (
	"bytes"
	"math"
	"testing"

	"countermand/api"
	"countermand/change"
	"countermand/record"
)

func id(replica, seq int) api.Id { return api.Id{Replica: replica, Seq: seq} }

var (
	someChange = api.Change{Id: id(2, 0x0102), Time: 5, Kind: 3, A: 1, B: 2, N: -9, Ref: id(1, 1)}
	someKey    = api.Key{Id: id(3, 0x0405), Ord: 6, Undo: true}
)

func all() []record.Record {
	return []record.Record{record.Change(someChange), record.Commit(id(1, 0x0203)), record.Try(someKey, 0x01020304), record.Ack(someKey)}
}

// P23.1: the constructors set the fields of their kind only.
func TestConstructors(t *testing.T) {
	want := []record.Record{{Kind: 1, C: someChange}, {Kind: 2, Id: id(1, 0x0203)}, {Kind: 3, Key: someKey, Now: 0x01020304}, {Kind: 4, Key: someKey}}
	for i, r := range all() {
		if r != want[i] {
			t.Errorf("P23.1: %v; want %v", r, want[i])
		}
	}
	if record.Commit(id(-1, -1)) != (record.Record{Kind: 2, Id: id(-1, -1)}) || record.Try(api.Key{}, -1) != (record.Record{Kind: 3, Now: -1}) {
		t.Error("P23.1: constructors examine their arguments")
	}
}

// P23.1, P23.2: encodings, byte by byte.
func TestPut(t *testing.T) {
	c, _ := change.Put(someChange)
	want := [][]byte{append([]byte{1}, c...), {2, 1, 2, 3}, {3, 3, 4, 5, 6, 1, 1, 2, 3, 4}, {4, 3, 4, 5, 6, 1}}
	for i, r := range all() {
		b, e := record.Put(r)
		if e != api.OK || !bytes.Equal(b, want[i]) || record.Check(r) != api.OK {
			t.Errorf("P23.1: Put(%v) = %v, %d; want %v", r, b, e, want[i])
		}
		if got, e := record.Get(b); got != r || e != api.OK {
			t.Errorf("P23.2: %v is decoded as %v, %d", r, got, e)
		}
	}
	k := someKey
	k.Undo = false
	if b, _ := record.Put(record.Ack(k)); !bytes.Equal(b, []byte{4, 3, 4, 5, 6, 0}) {
		t.Errorf("P23.1: an answer to a request = %v", b)
	}
	if got, e := record.Get([]byte{4, 3, 4, 5, 6, 0}); e != api.OK || got != record.Ack(k) {
		t.Errorf("P23.2: an answer to a request is decoded as %v", got)
	}
}

func bad(t *testing.T, r record.Record, want api.Errno) {
	t.Helper()
	if e := record.Check(r); e != want {
		t.Errorf("P23.1: Check(%v) = %d; want %d", r, e, want)
	}
	if b, e := record.Put(r); e != want || len(b) != 0 {
		t.Errorf("P23.1: Put(%v) = %v, %d; want %d", r, b, e, want)
	}
}

// P23.1: kinds that there are not; this error comes first.
func TestKind(t *testing.T) {
	for _, k := range []int{0, 5, -1, 255, 257, math.MaxInt, math.MinInt} {
		bad(t, record.Record{Kind: k}, api.ErrKind)
		bad(t, record.Record{Kind: k, C: someChange, Id: id(1, 1), Key: someKey, Now: 1}, api.ErrKind)
		bad(t, record.Record{Kind: k, Now: -1}, api.ErrKind)
	}
}

// P23.1: fields that are not valid.
func TestRange(t *testing.T) {
	c := someChange
	c.Time = 0
	bad(t, record.Change(c), api.ErrRange)
	bad(t, record.Change(api.Change{}), api.ErrRange)
	for _, a := range []api.Id{{}, id(4, 1), id(-1, 1), id(0, 0), id(0, 65536)} {
		bad(t, record.Commit(a), api.ErrRange)
		bad(t, record.Try(api.Key{Id: a, Ord: 1}, 1), api.ErrRange)
		bad(t, record.Ack(api.Key{Id: a, Ord: 1}), api.ErrRange)
	}
	for _, o := range []int{0, -1, 256} {
		bad(t, record.Try(api.Key{Id: id(1, 1), Ord: o}, 1), api.ErrRange)
		bad(t, record.Ack(api.Key{Id: id(1, 1), Ord: o}), api.ErrRange)
	}
	for _, n := range []int{-1, api.MaxTime + 1, math.MaxInt, math.MinInt} {
		bad(t, record.Try(someKey, n), api.ErrRange)
	}
	for _, n := range []int{0, 1, api.MaxTime} {
		r := record.Try(someKey, n)
		b, e := record.Put(r)
		if got, f := record.Get(b); e != api.OK || f != api.OK || got != r {
			t.Errorf("P23.2: Now %d is decoded as %v", n, got)
		}
	}
}

// P23.1: fields that the kind does not have; this error comes last.
func TestOther(t *testing.T) {
	edits := []struct {
		set func(r *record.Record)
		has [5]bool // by kind
	}{
		{func(r *record.Record) { r.C.N = 1 }, [5]bool{1: true}},
		{func(r *record.Record) { r.Id.Seq = 1 }, [5]bool{2: true}},
		{func(r *record.Record) { r.Id.Replica = 1 }, [5]bool{2: true}},
		{func(r *record.Record) { r.Key.Ord = 1 }, [5]bool{3: true, 4: true}},
		{func(r *record.Record) { r.Key.Undo = !r.Key.Undo }, [5]bool{3: true, 4: true}},
		{func(r *record.Record) { r.Key.Id.Seq = 1 }, [5]bool{3: true, 4: true}},
		{func(r *record.Record) { r.Now = 1 }, [5]bool{3: true}},
		{func(r *record.Record) { r.C.Id.Seq = 1 }, [5]bool{1: true}},
	}
	for i, x := range edits {
		for _, r := range all() {
			x.set(&r)
			if x.has[r.Kind] {
				if e := record.Check(r); e != api.OK {
					t.Errorf("P23.1: edit %d of %v: %d", i, r, e)
				}
			} else {
				bad(t, r, api.ErrSyntax)
			}
		}
	}
	bad(t, record.Record{Kind: 4, Key: someKey, Now: -1}, api.ErrSyntax)
	bad(t, record.Record{Kind: 4, Key: api.Key{}, Now: 1}, api.ErrRange)
	bad(t, record.Record{Kind: 2, Id: id(9, 9), Key: someKey}, api.ErrRange)
}

// P23.1: what Get rejects.
func TestGetRejects(t *testing.T) {
	wrong := [][]byte{nil, {0}, {5}, {255, 1, 1, 1}, {2, 4, 0, 1}, {2, 0, 0, 0}, {4, 3, 4, 5, 0, 0}, {4, 3, 4, 5, 6, 2}, {4, 3, 4, 5, 6, 255}, {3, 3, 4, 5, 6, 1, 0x40, 0, 0, 1}, {3, 3, 4, 5, 6, 2, 0, 0, 0, 1}, {2, 1, 2, 3, 0}}
	for _, r := range all() {
		b, _ := record.Put(r)
		wrong = append(wrong, append(bytes.Clone(b), 0))
		for i := range b {
			wrong = append(wrong, b[:i])
		}
	}
	c, _ := record.Put(record.Change(someChange))
	c[len(c)-1] = 0
	for _, b := range append(wrong, c) {
		if r, e := record.Get(b); e != api.ErrSyntax || r != (record.Record{}) {
			t.Errorf("P23.1: Get(%v) = %v, %d", b, r, e)
		}
	}
}

// P23.2: whatever is decoded is encoded as the same bytes.
func TestBytes(t *testing.T) {
	for _, r := range all() {
		b, _ := record.Put(r)
		for i := range b {
			for x := range 256 {
				c := bytes.Clone(b)
				c[i] = byte(x)
				got, e := record.Get(c)
				if e != api.OK {
					continue
				}
				if again, e := record.Put(got); e != api.OK || !bytes.Equal(again, c) {
					t.Fatalf("P23.2: %v is decoded as %v", c, got)
				}
			}
		}
	}
}
