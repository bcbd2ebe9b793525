package cut_test

import (
	"bytes"
	"math"
	"slices"
	"testing"

	"countermand/api"
	"countermand/cut"
	"countermand/deal"
	"countermand/fold"
)

func id(replica, seq int) api.Id { return api.Id{Replica: replica, Seq: seq} }

func change(replica, seq, kind, a, b int, n int64, ref api.Id) api.Change {
	return api.Change{Id: id(replica, seq), Time: 5, Kind: kind, A: a, B: b, N: n, Ref: ref}
}

func changes() []api.Change {
	return []api.Change{
		change(2, 1, 2, 1, 0, 50, api.Id{}), change(0, 1, 1, 4, 0, 10, api.Id{}), change(1, 1, 3, 1, 4, 3, api.Id{}), change(0, 2, 3, 2, 4, 99, api.Id{}),
		change(3, 1, 9, 4, 0, 2, api.Id{}), change(0, 3, 6, 0, 0, 0, id(1, 1)), change(2, 2, 3, 0, 4, 2, api.Id{}), change(2, 3, 7, 0, 0, 0, id(1, 1)), change(1, 2, 5, 0, 0, 0, id(2, 2)), change(1, 3, 99, 0, 0, 0, api.Id{}),
	}
}

func byHand(l []api.Change) cut.Cut {
	c := cut.Cut{Count: len(l), Book: fold.Last(api.Book{}, l...)}
	for _, x := range l {
		c.Known[x.Id.Replica] = max(c.Known[x.Id.Replica], x.Id.Seq)
	}
	return c
}

func equal(a, b cut.Cut) bool {
	return a.Count == b.Count && a.Known == b.Known && deal.Same(a.Book, b.Book)
}

// P41.1, P41.3: cuts everywhere; the rest leads to the same result.
func TestOf(t *testing.T) {
	l := changes()
	whole, outcomes := fold.Run(api.Book{}, l...)
	for _, n := range []int{math.MinInt, -1, 0, 1, 2, 3, 4, 5, 6, 7, 8, 9, 10, 11, math.MaxInt} {
		k := min(max(n, 0), len(l))
		c, rest := cut.Of(l, n)
		if !equal(c, byHand(l[:k])) || !slices.Equal(rest, l[k:]) {
			t.Errorf("P41.1: Of(%d) = %v, %v", n, c, rest)
		}
		b, o := cut.Run(c, rest...)
		if !deal.Same(b, whole) || !fold.Same(o, outcomes[k:]) {
			t.Errorf("P41.3: after a cut at %d: %v, %v", n, b, o)
		}
		for m := k; m <= len(l); m++ {
			if got := cut.More(c, l[k:m]...); !equal(got, byHand(l[:m])) {
				t.Errorf("P41.1: More from %d to %d = %v", k, m, got)
			}
		}
	}
	if c, rest := cut.Of(nil, 3); !equal(c, cut.Cut{}) || len(rest) != 0 {
		t.Error("P41.1: Of nothing", c)
	}
}

// P41.1: More and Run start with the booking of the cut, whatever that is.
func TestMore(t *testing.T) {
	c := cut.Cut{Count: 7, Known: [4]int{5, 0, 1, 9}, Book: api.Book{Stock: [8]int64{4: 100}, Orders: []api.Order{{Id: id(3, 3), State: 1, Item: 4, Qty: 5}}}}
	got := cut.More(c, changes()...)
	if want := (cut.Cut{Count: 17, Known: [4]int{5, 3, 3, 9}, Book: fold.Last(c.Book, changes()...)}); !equal(got, want) {
		t.Errorf("P41.1: More = %v; want %v", got, want)
	}
	if got := cut.More(c); !equal(got, c) {
		t.Error("P41.1: More by nothing", got)
	}
	b, o := cut.Run(c, changes()...)
	wantB, wantO := fold.Run(c.Book, changes()...)
	if !deal.Same(b, wantB) || !fold.Same(o, wantO) {
		t.Error("P41.1: Run", b, o)
	}
	if b, o := cut.Run(c); !deal.Same(b, c.Book) || len(o) != 0 {
		t.Error("P41.1: Run of nothing")
	}
}

// full is a valid cut in which all numbers are different.
func full() cut.Cut {
	c := cut.Cut{Count: 48, Known: [4]int{0x0102, 0, 65535, 7}}
	for i := range 8 {
		c.Book.Stock[i], c.Book.Price[i], c.Book.Purse[i] = int64(10+i), int64(-20-i), math.MaxInt64-int64(i)
	}
	c.Book.Orders = []api.Order{{Id: id(2, 0x0304), Buyer: 5, Item: 6, Qty: -7, Cost: 1 << 40, State: 8}, {Id: id(3, 0x0304), Buyer: 255, Item: 255, Qty: math.MinInt64, Cost: 0, State: 255}, {Id: id(0, 65535)}}
	return c
}

// P41.2: the encoding, byte by byte.
func TestPut(t *testing.T) {
	eight := func(n int64) []byte {
		var b []byte
		for s := 56; s >= 0; s -= 8 {
			b = append(b, byte(uint64(n)>>s))
		}
		return b
	}
	c := full()
	want := []byte{48, 1, 2, 0, 0, 255, 255, 0, 7}
	for _, l := range [][8]int64{c.Book.Stock, c.Book.Price, c.Book.Purse} {
		for _, n := range l {
			want = append(want, eight(n)...)
		}
	}
	want = append(want, 3)
	for _, o := range c.Book.Orders {
		want = append(want, byte(o.Id.Replica), byte(o.Id.Seq>>8), byte(o.Id.Seq), byte(o.Buyer), byte(o.Item))
		want = append(append(append(want, eight(o.Qty)...), eight(o.Cost)...), byte(o.State))
	}
	b, e := cut.Put(c)
	if e != api.OK || !bytes.Equal(b, want) {
		t.Errorf("P41.2: Put = %v, %d; want %v", b, e, want)
	}
	if got, e := cut.Get(b); e != api.OK || !equal(got, c) {
		t.Errorf("P41.2: Get = %v, %d", got, e)
	}
	if b, e := cut.Put(cut.Cut{}); e != api.OK || !bytes.Equal(b, make([]byte, 202)) {
		t.Error("P41.2: the example", len(b), e)
	}
	for n := range len(changes()) + 1 {
		c, _ := cut.Of(changes(), n)
		b, e := cut.Put(c)
		if got, f := cut.Get(b); e != api.OK || f != api.OK || !equal(got, c) {
			t.Errorf("P41.2: a cut of %d changes is decoded as %v", n, got)
		}
	}
}

func bad(t *testing.T, c cut.Cut) {
	t.Helper()
	if e := cut.Check(c); e != api.ErrRange {
		t.Errorf("P41.2: Check(%v) = %d", c, e)
	}
	if b, e := cut.Put(c); e != api.ErrRange || len(b) != 0 {
		t.Errorf("P41.2: Put(%v): %d bytes, %d", c, len(b), e)
	}
}

// P41.2: the bounds of every field.
func TestCheck(t *testing.T) {
	fields := []struct {
		set    func(c *cut.Cut, n int)
		lo, hi int
	}{
		{func(c *cut.Cut, n int) { c.Count = n }, 0, 48}, {func(c *cut.Cut, n int) { c.Known[0] = n }, 0, 65535}, {func(c *cut.Cut, n int) { c.Known[3] = n }, 0, 65535},
		{func(c *cut.Cut, n int) { c.Book.Orders[0].Buyer = n }, 0, 255}, {func(c *cut.Cut, n int) { c.Book.Orders[1].Item = n }, 0, 255}, {func(c *cut.Cut, n int) { c.Book.Orders[2].State = n }, 0, 255},
		{func(c *cut.Cut, n int) { c.Book.Orders[0].Id.Replica = n }, 0, 2}, {func(c *cut.Cut, n int) { c.Book.Orders[0].Id.Seq = n }, 1, 0x0304}, {func(c *cut.Cut, n int) { c.Book.Orders[1].Id.Replica = n }, 3, 3}, {func(c *cut.Cut, n int) { c.Book.Orders[2].Id.Seq = n }, 0x0305, 65535}, {func(c *cut.Cut, n int) { c.Book.Orders[2].Id.Replica = n }, 0, 3},
	}
	for i, f := range fields {
		for n, fine := range map[int]bool{f.lo: true, f.hi: true, f.lo - 1: false, f.hi + 1: false, math.MaxInt: false, math.MinInt: false} {
			c := full()
			f.set(&c, n)
			if !fine {
				bad(t, c)
				continue
			}
			b, e := cut.Put(c)
			if got, f := cut.Get(b); cut.Check(c) != api.OK || e != api.OK || f != api.OK || !equal(got, c) {
				t.Errorf("P41.2: field %d = %d is decoded as %v, %d", i, n, got, e)
			}
		}
	}
	c := full()
	c.Book.Orders[1].Id = c.Book.Orders[0].Id
	bad(t, c)
	c = full()
	slices.Reverse(c.Book.Orders)
	bad(t, c)
}

// P41.2: the number of orders.
func TestCount(t *testing.T) {
	for n, fine := range map[int]bool{31: true, 32: true, 33: false, 256: false} {
		var c cut.Cut
		for i := range n {
			c.Book.Orders = append(c.Book.Orders, api.Order{Id: id(0, i+1)})
		}
		if !fine {
			bad(t, c)
		} else if b, e := cut.Put(c); e != api.OK || len(b) != 202+22*n {
			t.Errorf("P41.2: Put of %d orders: %d", n, e)
		} else if got, e := cut.Get(b); e != api.OK || !equal(got, c) {
			t.Errorf("P41.2: Get of %d orders: %d", n, e)
		}
	}
}

// P41.2: what Get rejects.
func TestGetRejects(t *testing.T) {
	b, _ := cut.Put(full())
	wrong := [][]byte{nil, append(bytes.Clone(b), 0), append(bytes.Clone(b), b[202:224]...)}
	for i := range b {
		wrong = append(wrong, b[:i])
	}
	for at, x := range map[int]byte{0: 49, 201: 2, 202: 4, 224: 2} {
		c := bytes.Clone(b)
		c[at] = x
		wrong = append(wrong, c)
	}
	more := bytes.Clone(b)
	more[201] = 4
	zero := bytes.Clone(b)
	zero[203], zero[204] = 0, 0
	same := append(bytes.Clone(b), b[246:268]...)
	same[201] = 4
	many := make([]byte, 202+22*33)
	many[201] = 33
	for i := range 33 {
		many[202+22*i+2] = byte(i + 1)
	}
	for _, x := range append(wrong, more, zero, same, many) {
		if c, e := cut.Get(x); e != api.ErrSyntax || !equal(c, cut.Cut{}) {
			t.Errorf("P41.2: Get of %d bytes: %d", len(x), e)
		}
	}
	for i := range b {
		for _, x := range []byte{0, 1, 127, 128, 255} {
			c := bytes.Clone(b)
			c[i] = x
			if got, e := cut.Get(c); e == api.OK {
				if again, _ := cut.Put(got); !bytes.Equal(again, c) {
					t.Fatalf("P41.2: byte %d = %d is decoded as %v", i, x, got)
				}
			}
		}
	}
}

// P41.1: Same examines everything.
func TestSame(t *testing.T) {
	if !cut.Same(full(), full()) || !cut.Same(cut.Cut{}, cut.Cut{Book: api.Book{Orders: []api.Order{}}}) {
		t.Error("P41.1: Same of equal cuts")
	}
	edits := []func(c *cut.Cut){func(c *cut.Cut) { c.Count++ }, func(c *cut.Cut) { c.Known[0]++ }, func(c *cut.Cut) { c.Known[3]++ }, func(c *cut.Cut) { c.Book.Stock[7]++ }, func(c *cut.Cut) { c.Book.Price[0]++ }, func(c *cut.Cut) { c.Book.Purse[1]++ }, func(c *cut.Cut) { c.Book.Orders[2].Cost++ }, func(c *cut.Cut) { c.Book.Orders = c.Book.Orders[:2] }}
	for i, edit := range edits {
		c := full()
		edit(&c)
		if cut.Same(c, full()) || cut.Same(full(), c) {
			t.Errorf("P41.1: Same overlooks difference %d", i)
		}
	}
}

// P2: results are new memory.
func TestMemory(t *testing.T) {
	l := changes()
	c, rest := cut.Of(l, 3)
	rest[0].N = 77
	_ = append(rest, l[0])
	saved := cut.More(c)
	saved.Book.Orders[0].Qty = 77
	b, _ := cut.Run(c)
	b.Orders[0].Qty = 77
	if !slices.Equal(l, changes()) || c.Book.Orders[0].Qty != 3 {
		t.Error("P2: a cut shares memory")
	}
	bytes1, _ := cut.Put(full())
	got, _ := cut.Get(bytes1)
	clear(bytes1)
	if !equal(got, full()) {
		t.Error("P2: Get keeps its argument")
	}
}
