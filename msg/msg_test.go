package msg_test

import (
	"bytes"
	"math"
	"testing"

	"countermand/api"
	"countermand/change"
	"countermand/effect"
	"countermand/frame"
	"countermand/msg"
)

func id(replica, seq int) api.Id { return api.Id{Replica: replica, Seq: seq} }

var (
	someKey  = api.Key{Id: id(3, 0x0405), Ord: 6, Undo: true}
	someWhat = api.Effect{Kind: 7, A: 8, N: -9, Ref: id(1, 2)}
)

func someChange(i int) api.Change {
	return api.Change{Id: id(i%4, i+1), Time: i + 1, Kind: 3, A: i, N: -5}
}

func ask() msg.Msg {
	return msg.Msg{Kind: 1, From: 2, To: 3, Known: [4]int{0x0102, 0, 65535, 7}, Base: 48}
}

func push(ids, changes int) msg.Msg {
	m := msg.Msg{Kind: 2, From: 3, To: 1, Base: 5}
	for i := range ids {
		m.Ids = append(m.Ids, id(i%4, 0x0203+i))
	}
	for i := range changes {
		m.Changes = append(m.Changes, someChange(i))
	}
	return m
}

func request() msg.Msg {
	return msg.Msg{Kind: 3, From: 1, To: 9, Key: someKey, What: someWhat}
}

func answer() msg.Msg {
	return msg.Msg{Kind: 4, From: 9, To: 1, Key: someKey}
}

func all() []msg.Msg {
	return []msg.Msg{ask(), push(2, 2), push(0, 0), push(16, 8), push(1, 0), push(0, 1), request(), answer()}
}

func framed(t *testing.T, b []byte) []byte {
	t.Helper()
	f, e := frame.Put(b)
	if e != api.OK {
		t.Fatal("no frame", e)
	}
	return f
}

// P26.1: encodings, byte by byte.
func TestPut(t *testing.T) {
	m := push(2, 2)
	changes, _ := change.All(m.Changes)
	what, _ := effect.Put(someWhat)
	plain := answer()
	plain.Key.Undo = false
	cases := []struct {
		m    msg.Msg
		want []byte
	}{
		{ask(), []byte{1, 2, 3, 1, 2, 0, 0, 255, 255, 0, 7, 48}},
		{m, append([]byte{2, 3, 1, 5, 2, 0, 2, 3, 1, 2, 4}, changes...)},
		{push(0, 0), []byte{2, 3, 1, 5, 0, 0}},
		{request(), append([]byte{3, 1, 9, 3, 4, 5, 6, 1}, what...)},
		{answer(), []byte{4, 9, 1, 3, 4, 5, 6, 1}},
		{plain, []byte{4, 9, 1, 3, 4, 5, 6, 0}},
	}
	for _, c := range cases {
		if got, e := msg.Put(c.m); e != api.OK || !bytes.Equal(got, framed(t, c.want)) {
			t.Errorf("P26.1: Put(%v) = %v, %d; want the frame of %v", c.m, got, e, c.want)
		}
	}
	if b, _ := msg.Put(ask()); len(b) != 19 {
		t.Error("P26.1: the encoding of an ask has", len(b))
	}
}

// P26.2: messages are decoded unchanged.
func TestRoundTrip(t *testing.T) {
	for _, m := range all() {
		b, e := msg.Put(m)
		if e != api.OK || msg.Check(m) != api.OK {
			t.Fatalf("P26.1: Put(%v): %d", m, e)
		}
		if got, e := msg.Get(b); e != api.OK || !msg.Same(got, m) {
			t.Errorf("P26.2: %v is decoded as %v, %d", m, got, e)
		}
	}
}

// P26.2: one inverted bit, or a byte more or less.
func TestBits(t *testing.T) {
	for _, m := range all() {
		b, _ := msg.Put(m)
		for bit := range 8 * len(b) {
			c := bytes.Clone(b)
			c[bit/8] ^= 1 << (bit % 8)
			reject(t, "an inverted bit", c)
		}
		for i := range b {
			reject(t, "a shortened message", b[:i])
		}
		reject(t, "a longer message", append(bytes.Clone(b), 0))
		reject(t, "two messages", append(bytes.Clone(b), b...))
	}
}

func reject(t *testing.T, name string, b []byte) {
	t.Helper()
	if m, e := msg.Get(b); e != api.ErrSyntax || !msg.Same(m, msg.Msg{}) {
		t.Errorf("P26.1: Get of %s: %v, %d", name, m, e)
	}
}

func bad(t *testing.T, m msg.Msg, want api.Errno) {
	t.Helper()
	if e := msg.Check(m); e != want {
		t.Errorf("P26.1: Check(%v) = %d; want %d", m, e, want)
	}
	if b, e := msg.Put(m); e != want || len(b) != 0 {
		t.Errorf("P26.1: Put(%v): %d bytes, %d; want %d", m, len(b), e, want)
	}
}

// P26.1: kinds that there are not.
func TestKind(t *testing.T) {
	for _, k := range []int{0, 5, -1, 257, math.MaxInt, math.MinInt} {
		for _, m := range all() {
			m.Kind = k
			bad(t, m, api.ErrKind)
		}
		bad(t, msg.Msg{Kind: k, From: -1}, api.ErrKind)
	}
}

// P26.1: From and To.
func TestEnds(t *testing.T) {
	for _, n := range []int{math.MinInt, -1, 0, 1, 2, 3, 4, 8, 9, 10, math.MaxInt} {
		replica, gateway := n >= 0 && n <= 3, n == 9
		cases := []struct {
			m    msg.Msg
			fine bool
		}{
			{msg.Msg{Kind: 1, From: n, To: 1}, replica}, {msg.Msg{Kind: 1, From: 1, To: n}, replica},
			{msg.Msg{Kind: 2, From: n, To: 1}, replica}, {msg.Msg{Kind: 2, From: 1, To: n}, replica},
			{msg.Msg{Kind: 3, From: n, To: 9, Key: someKey, What: someWhat}, replica}, {msg.Msg{Kind: 3, From: 1, To: n, Key: someKey, What: someWhat}, gateway},
			{msg.Msg{Kind: 4, From: n, To: 1, Key: someKey}, gateway}, {msg.Msg{Kind: 4, From: 9, To: n, Key: someKey}, replica},
		}
		for _, c := range cases {
			if c.fine {
				if e := msg.Check(c.m); e != api.OK {
					t.Errorf("P26.1: Check(%v) = %d", c.m, e)
				}
			} else {
				bad(t, c.m, api.ErrRange)
			}
		}
	}
}

// P26.1: the other fields.
func TestRange(t *testing.T) {
	for i := range 4 {
		for _, n := range []int{-1, 65536, math.MaxInt, math.MinInt} {
			m := ask()
			m.Known[i] = n
			bad(t, m, api.ErrRange)
		}
	}
	for _, n := range []int{-1, 49, math.MaxInt, math.MinInt} {
		for _, m := range []msg.Msg{ask(), push(1, 1)} {
			m.Base = n
			bad(t, m, api.ErrRange)
		}
	}
	for _, n := range []int{0, 48} {
		m := push(1, 1)
		m.Base = n
		if e := msg.Check(m); e != api.OK {
			t.Error("P26.1: Base", n, e)
		}
	}
	bad(t, push(17, 0), api.ErrRange)
	bad(t, push(0, 9), api.ErrRange)
	for i := range 3 {
		m := push(3, 3)
		m.Ids[i] = id(0, 0)
		bad(t, m, api.ErrRange)
		m = push(3, 3)
		m.Changes[i].Time = 0
		bad(t, m, api.ErrRange)
	}
	for _, m := range []msg.Msg{request(), answer()} {
		m.Key.Ord = 0
		bad(t, m, api.ErrRange)
		m.Key.Ord, m.Key.Id.Replica = 1, 4
		bad(t, m, api.ErrRange)
	}
	m := request()
	m.What.Kind = 12
	bad(t, m, api.ErrRange)
	m.What.Kind, m.What.A = 1, 256
	bad(t, m, api.ErrRange)
}

// P26.1: fields that the kind does not have; this error comes last.
func TestOther(t *testing.T) {
	edits := []struct {
		set func(m *msg.Msg)
		has [5]bool // by kind
	}{
		{func(m *msg.Msg) { m.Known[3] = 1 }, [5]bool{1: true}},
		{func(m *msg.Msg) { m.Base = 1 }, [5]bool{1: true, 2: true}},
		{func(m *msg.Msg) { m.Ids = []api.Id{id(1, 1)} }, [5]bool{2: true}},
		{func(m *msg.Msg) { m.Changes = []api.Change{someChange(1)} }, [5]bool{2: true}},
		{func(m *msg.Msg) { m.Key.Ord = 1 }, [5]bool{3: true, 4: true}},
		{func(m *msg.Msg) { m.Key.Undo = true }, [5]bool{3: true, 4: true}},
		{func(m *msg.Msg) { m.What.N = 1 }, [5]bool{3: true}},
		{func(m *msg.Msg) { m.What.Kind = 1 }, [5]bool{3: true}},
	}
	for i, x := range edits {
		for _, m := range []msg.Msg{ask(), push(1, 1), request(), answer()} {
			x.set(&m)
			if !x.has[m.Kind] {
				bad(t, m, api.ErrSyntax)
				m.From = -1
				bad(t, m, api.ErrRange)
			} else if e := msg.Check(m); e != api.OK {
				t.Errorf("P26.1: edit %d of %v: %d", i, m, e)
			}
		}
	}
	m := answer()
	m.Ids, m.Changes = []api.Id{}, []api.Change{}
	if e := msg.Check(m); e != api.OK {
		t.Error("P26.1: empty lists are not zero", e)
	}
}

// P26.1: frames whose payload is no encoding.
func TestGetRejects(t *testing.T) {
	what, _ := effect.Put(someWhat)
	wrong := [][]byte{
		{0}, {1}, {1, 2}, {1, 2, 3}, {5, 1, 1}, {0, 1, 1}, {255, 0, 0},
		{1, 2, 3, 0, 0, 0, 0, 0, 0, 0, 0, 49}, {1, 4, 3, 0, 0, 0, 0, 0, 0, 0, 0, 1}, {1, 2, 9, 0, 0, 0, 0, 0, 0, 0, 0, 1}, {1, 2, 3, 0, 0, 0, 0, 0, 0, 0, 0, 1, 0}, {1, 2, 3, 0, 0, 0, 0, 0, 0, 0, 0},
		{2, 3, 1, 5, 0}, {2, 3, 1, 49, 0, 0}, {2, 3, 1, 5, 1, 0}, {2, 3, 1, 5, 1, 0, 0, 0, 0}, {2, 3, 1, 5, 0, 1}, {2, 3, 1, 5, 0, 0, 0},
		{4, 9, 1, 3, 4, 5, 6, 2}, {4, 9, 1, 3, 4, 5, 0, 1}, {4, 1, 1, 3, 4, 5, 6, 1}, {4, 9, 9, 3, 4, 5, 6, 1}, {4, 9, 1, 3, 4, 5, 6}, {4, 9, 1, 3, 4, 5, 6, 1, 0},
		append([]byte{3, 1, 9, 3, 4, 5, 6, 2}, what...), append([]byte{3, 1, 1, 3, 4, 5, 6, 1}, what...), append([]byte{3, 1, 9, 3, 4, 5, 6, 1}, what[:12]...), append(append([]byte{3, 1, 9, 3, 4, 5, 6, 1}, what...), 0), {3, 1, 9, 3, 4, 5, 6, 1},
	}
	for _, b := range wrong {
		reject(t, "a wrong payload", framed(t, b))
	}
	long := []byte{2, 3, 1, 5, 17}
	for i := range 17 {
		long = append(long, 0, 0, byte(i+1))
	}
	reject(t, "17 Ids", framed(t, append(long, 0)))
	changes, _ := change.All(func() (l []api.Change) {
		for i := range 9 {
			l = append(l, someChange(i))
		}
		return
	}())
	reject(t, "9 changes", framed(t, append([]byte{2, 3, 1, 5, 0}, changes...)))
	reject(t, "nothing", nil)
}

// P26.1: Same examines every field.
func TestSame(t *testing.T) {
	full := func() msg.Msg {
		m := push(2, 2)
		m.Known, m.Key, m.What = [4]int{1, 2, 3, 4}, someKey, someWhat
		return m
	}
	edits := []func(m *msg.Msg){
		func(m *msg.Msg) { m.Kind++ }, func(m *msg.Msg) { m.From++ }, func(m *msg.Msg) { m.To++ }, func(m *msg.Msg) { m.Known[0]++ }, func(m *msg.Msg) { m.Known[3]++ }, func(m *msg.Msg) { m.Base++ },
		func(m *msg.Msg) { m.Ids[1].Seq++ }, func(m *msg.Msg) { m.Ids = m.Ids[:1] }, func(m *msg.Msg) { m.Ids = nil }, func(m *msg.Msg) { m.Changes[0].N++ }, func(m *msg.Msg) { m.Changes = m.Changes[:1] },
		func(m *msg.Msg) { m.Key.Undo = false }, func(m *msg.Msg) { m.Key.Ord++ }, func(m *msg.Msg) { m.What.N++ }, func(m *msg.Msg) { m.What.Ref.Seq++ },
		func(m *msg.Msg) { m.Ids[0], m.Ids[1] = m.Ids[1], m.Ids[0] },
	}
	if !msg.Same(full(), full()) || !msg.Same(msg.Msg{}, msg.Msg{Ids: []api.Id{}, Changes: []api.Change{}}) {
		t.Error("P26.1: Same of equal messages")
	}
	for i, edit := range edits {
		m := full()
		edit(&m)
		if msg.Same(m, full()) || msg.Same(full(), m) {
			t.Errorf("P26.1: Same overlooks difference %d", i)
		}
	}
}

// P26.1, P2: clones and decoded messages are independent.
func TestMemory(t *testing.T) {
	m := push(2, 2)
	c := msg.Clone(m)
	if !msg.Same(c, m) || !msg.Same(msg.Clone(request()), request()) || !msg.Same(msg.Clone(ask()), ask()) {
		t.Error("P26.1: Clone")
	}
	c.Ids[0].Seq, c.Changes[0].N = 99, 99
	if !msg.Same(m, push(2, 2)) {
		t.Error("P2: Clone shares memory")
	}
	b, _ := msg.Put(m)
	saved := bytes.Clone(b)
	got, _ := msg.Get(b)
	clear(b)
	if !msg.Same(got, m) {
		t.Error("P2: Get keeps its argument")
	}
	if again, _ := msg.Put(m); !bytes.Equal(again, saved) {
		t.Error("P2: Put keeps its result")
	}
}
