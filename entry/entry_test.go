package entry_test

import (
	"bytes"
	"math"
	"testing"

	"countermand/api"
	"countermand/entry"
)

var what = api.Effect{Kind: 7, A: 8, N: -2, Ref: api.Id{Replica: 1, Seq: 0x0203}}

// sent, done, gone and undoing are an entry in each of its four states.
var (
	sent    = entry.Entry{Ord: 5, What: what, Sent: 2, Last: 0x01020304}
	done    = entry.Entry{Ord: 5, What: what, Sent: 2, Last: 0x01020304, Acked: true}
	gone    = entry.Entry{Ord: 5, What: what, Sent: 2, Last: 0x01020304, Gone: true}
	undoing = entry.Entry{Ord: 5, What: what, Sent: 2, Last: 0x01020304, Acked: true, Gone: true, Back: 3, BackLast: 0x05060708}
)

// P20.2: the encoding, byte by byte.
func TestPut(t *testing.T) {
	head := []byte{5, 7, 8, 255, 255, 255, 255, 255, 255, 255, 254, 1, 2, 3, 2, 1, 2, 3, 4}
	cases := []struct {
		e    entry.Entry
		tail []byte
	}{
		{sent, []byte{0, 0, 0, 0, 0, 0, 0x45, 0x45}}, {done, []byte{0, 0, 0, 0, 0, 1, 0x45, 0x45}},
		{gone, []byte{0, 0, 0, 0, 0, 2, 0x45, 0x45}}, {undoing, []byte{3, 5, 6, 7, 8, 3, 0x45, 0x45}},
	}
	for _, c := range cases {
		want := append(bytes.Clone(head), c.tail...)
		if got := entry.Put(c.e); !bytes.Equal(got, want) {
			t.Errorf("P20.2: Put(%v) = %v; want %v", c.e, got, want)
		}
		if got, ok := entry.Get(want); !ok || got != c.e {
			t.Errorf("P20.2: Get(%v) = %v, %v", want, got, ok)
		}
	}
}

func check(t *testing.T, e entry.Entry, want bool) {
	t.Helper()
	if entry.Check(e) != want {
		t.Errorf("P20.1: Check(%v) = %v", e, !want)
	}
	b := entry.Put(e)
	if want && len(b) != 27 || !want && len(b) != 0 {
		t.Errorf("P20.2: Put(%v) has %d bytes", e, len(b))
	}
	if got, ok := entry.Get(b); ok != want || want && got != e || !want && got != (entry.Entry{}) {
		t.Errorf("P20.2: Get of Put(%v) = %v, %v", e, got, ok)
	}
}

// P20.1, P20.2: the bounds of every field.
func TestCheck(t *testing.T) {
	fields := []struct {
		set    func(e *entry.Entry, n int)
		lo, hi int
		base   entry.Entry
	}{
		{func(e *entry.Entry, n int) { e.Ord = n }, 1, 255, sent},
		{func(e *entry.Entry, n int) { e.Sent = n }, 1, 8, sent},
		{func(e *entry.Entry, n int) { e.Last = n }, 0, api.MaxTime, sent},
		{func(e *entry.Entry, n int) { e.Back = n }, 1, 8, undoing},
		{func(e *entry.Entry, n int) { e.BackLast = n }, 0, api.MaxTime, undoing},
		{func(e *entry.Entry, n int) { e.What.Kind = n }, 1, 11, undoing},
		{func(e *entry.Entry, n int) { e.What.A = n }, 0, 255, done},
		{func(e *entry.Entry, n int) { e.What.Ref.Seq = n }, 0, 65535, gone},
		{func(e *entry.Entry, n int) { e.Back = n }, 0, 0, done},
		{func(e *entry.Entry, n int) { e.Back = n }, 0, 0, gone},
		{func(e *entry.Entry, n int) { e.Back = n }, 0, 0, sent},
		{func(e *entry.Entry, n int) { e.BackLast = n }, 0, 0, sent},
		{func(e *entry.Entry, n int) { e.Back, e.BackLast = 0, n }, 0, 0, undoing},
		{func(e *entry.Entry, n int) { e.Back, e.BackLast = n, 0 }, 0, 8, undoing},
	}
	for _, f := range fields {
		for n, want := range map[int]bool{f.lo: true, f.hi: true, f.lo - 1: false, f.hi + 1: false, math.MaxInt: false, math.MinInt: false} {
			if n == 0 && f.lo == 1 && f.base == undoing && f.hi == 8 {
				continue // BackLast is not 0 there: see the last rows
			}
			e := f.base
			f.set(&e, n)
			check(t, e, want)
		}
	}
	e := undoing
	e.Back = 0
	check(t, e, false)
	e.BackLast = 0
	check(t, e, true)
	check(t, entry.Entry{}, false)
}

// P20.2: what Get rejects.
func TestGetRejects(t *testing.T) {
	for _, e := range []entry.Entry{sent, done, gone, undoing} {
		b := entry.Put(e)
		wrong := [][]byte{nil, append(bytes.Clone(b), 0), append(bytes.Clone(b), b...)}
		for i := range b {
			wrong = append(wrong, b[:i])
		}
		for at, x := range map[int]byte{0: 0, 1: 12, 14: 0, 15: 0x80, 24: 4, 25: 0x44, 26: 0x44} {
			c := bytes.Clone(b)
			c[at] = x
			wrong = append(wrong, c)
		}
		c := bytes.Clone(b)
		c[1] = 0
		wrong = append(wrong, c)
		c = bytes.Clone(b)
		c[14] = 9
		wrong = append(wrong, c)
		c = bytes.Clone(b)
		c[24] |= 0x80
		wrong = append(wrong, c)
		for _, w := range wrong {
			if got, ok := entry.Get(w); ok || got != (entry.Entry{}) {
				t.Errorf("P20.2: Get(%v) = %v, %v", w, got, ok)
			}
		}
		for i := range b {
			for x := range 256 {
				c := bytes.Clone(b)
				c[i] = byte(x)
				if got, ok := entry.Get(c); ok && !bytes.Equal(entry.Put(got), c) {
					t.Fatalf("P20.2: byte %d = %d is decoded as %v", i, x, got)
				}
			}
		}
	}
}

// P20.1: Open and Undoes.
func TestOpen(t *testing.T) {
	cases := []struct {
		e            entry.Entry
		open, undoes bool
	}{{sent, true, false}, {done, false, false}, {gone, true, false}, {undoing, true, true}, {entry.Entry{}, true, false}}
	for _, c := range cases {
		if entry.Open(c.e) != c.open || entry.Undoes(c.e) != c.undoes {
			t.Errorf("P20.1: Open, Undoes of %v: %v, %v", c.e, entry.Open(c.e), entry.Undoes(c.e))
		}
	}
}

func config(most, base, most2 int) api.Config {
	return api.Config{Replicas: 1, Sectors: 1, Most: most, Base: base, Cap: most2}
}

// P20.1: Ready, Dead and Word, over time.
func TestReadyDead(t *testing.T) {
	early := func(e entry.Entry, n int, last int) entry.Entry {
		if e.Acked && e.Gone {
			e.Sent, e.Last, e.Back, e.BackLast = 1, 900, n, last
		} else {
			e.Sent, e.Last = n, last
		}
		return e
	}
	words := []string{"sent", "done", "gone", "undoing"}
	for i, e := range []entry.Entry{sent, done, gone, undoing} {
		cases := []struct {
			n, last, most, base, limit, due int
		}{{1, 5, 3, 3, 10, 8}, {2, 5, 3, 3, 10, 11}, {3, 5, 4, 3, 10, 15}, {3, 5, 3, 3, 10, 15}, {4, 5, 3, 3, 10, 15}, {1, 5, 1, 3, 10, 8}, {8, 100, 8, 64, 64, 164}, {7, 100, 8, 1, 64, 164}, {2, 5, 3, 1, 1, 6}}
		for _, c := range cases {
			x, g := early(e, c.n, c.last), config(c.most, c.base, c.limit)
			for now := c.due - 12; now < c.due+12; now++ {
				ready := i != 1 && c.n < c.most && now >= c.due
				dead := i != 1 && c.n >= c.most && now >= c.due
				word := words[i]
				if dead {
					word += " dead"
				}
				if entry.Ready(x, g, now) != ready || entry.Dead(x, g, now) != dead || entry.Word(x, g, now) != word {
					t.Errorf("P20.1: %v at %d with %v: Ready %v, Dead %v, %q", x, now, g, entry.Ready(x, g, now), entry.Dead(x, g, now), entry.Word(x, g, now))
				}
			}
		}
	}
}

// P20.1: an undoing that was not tried yet may be tried at once.
func TestReadyFirst(t *testing.T) {
	e := undoing
	e.Back, e.BackLast = 0, 0
	for _, now := range []int{0, 1, 5, api.MaxTime} {
		if !entry.Ready(e, config(1, 64, 64), now) || entry.Dead(e, config(1, 64, 64), now) {
			t.Error("P20.1: a first undoing at", now)
		}
	}
	if entry.Ready(e, config(0, 1, 1), 5) || entry.Ready(e, config(-1, 1, 1), 5) || !entry.Dead(e, config(0, 1, 1), 5) {
		t.Error("P20.1: a first undoing with Most 0")
	}
	x := entry.Entry{Ord: 1, What: what, Sent: 1, Last: 5}
	if entry.Ready(x, config(3, 3, 10), 7) || !entry.Ready(x, config(3, 3, 10), 8) {
		t.Error("P20.1: the example")
	}
}

// P20.1: Try, up to MaxTries.
func TestTry(t *testing.T) {
	for _, e := range []entry.Entry{sent, gone} {
		want := e
		want.Sent, want.Last = 3, 77
		if got := entry.Try(e, 77); got != want {
			t.Errorf("P20.1: Try(%v) = %v", e, got)
		}
		e.Sent = 7
		if got := entry.Try(e, 9); got.Sent != 8 || got.Last != 9 {
			t.Errorf("P20.1: the last Try = %v", got)
		}
		e.Sent = 8
		if got := entry.Try(e, 9); got != e {
			t.Errorf("P20.1: one Try too many = %v", got)
		}
	}
	if got := entry.Try(done, 77); got != done {
		t.Errorf("P20.1: Try without a next action = %v", got)
	}
	want := undoing
	want.Back, want.BackLast = 4, 77
	if got := entry.Try(undoing, 77); got != want {
		t.Errorf("P20.1: Try of an undoing = %v", got)
	}
	e := undoing
	e.Back, e.Sent = 8, 1
	if got := entry.Try(e, 77); got != e {
		t.Errorf("P20.1: one undoing too many = %v", got)
	}
	e.Back, e.Sent = 7, 8
	if got := entry.Try(e, 77); got.Back != 8 || got.BackLast != 77 || got.Sent != 8 {
		t.Errorf("P20.1: the last undoing = %v", got)
	}
}

// P1: numbers of any size.
func TestAny(t *testing.T) {
	for _, n := range []int{math.MinInt, -1, 0, math.MaxInt} {
		for _, flags := range []int{0, 1, 2, 3} {
			e := entry.Entry{Ord: n, What: api.Effect{Kind: n, A: n}, Sent: n, Last: n, Back: n, BackLast: n, Acked: flags&1 > 0, Gone: flags&2 > 0}
			g := api.Config{Most: n, Base: n, Cap: n}
			entry.Ready(e, g, n)
			entry.Dead(e, g, n)
			entry.Word(e, g, n)
			entry.Try(e, n)
			check(t, e, false)
		}
	}
}
