package chain_test

import (
	"math"
	"slices"
	"testing"

	"countermand/api"
	"countermand/chain"
	"countermand/entry"
)

var (
	self = api.Id{Replica: 2, Seq: 7}
	a    = api.Effect{Kind: 1, A: 1, N: 1}
	b    = api.Effect{Kind: 4, A: 2, N: 2}
	c    = api.Effect{Kind: 7, A: 3, N: 3}
	d    = api.Effect{Kind: 7, A: 3, N: 3, Ref: self}
)

func wants(l ...api.Effect) []api.Effect { return l }

func sent(ord int, what api.Effect) entry.Entry {
	return entry.Entry{Ord: ord, What: what, Sent: 1, Last: 10}
}

func done(ord int, what api.Effect) entry.Entry {
	e := sent(ord, what)
	e.Acked = true
	return e
}

func gone(e entry.Entry) entry.Entry {
	e.Gone = true
	return e
}

func back(e entry.Entry, n, last int) entry.Entry {
	e.Gone, e.Back, e.BackLast = true, n, last
	return e
}

// of returns a chain whose stack has space behind it.
func of(made int, l ...entry.Entry) chain.Chain {
	return chain.Chain{Id: self, Made: made, Stack: append(make([]entry.Entry, 0, len(l)+3), l...)}
}

func same(x, y chain.Chain) bool {
	return x.Id == y.Id && x.Made == y.Made && slices.Equal(x.Stack, y.Stack)
}

func key(ord int, undo bool) api.Key { return api.Key{Id: self, Ord: ord, Undo: undo} }

// P21.1, P21.2: Settle marks from the first difference on.
func TestSettle(t *testing.T) {
	cases := []struct {
		stack []entry.Entry
		want  []api.Effect
		gone  int // the index of the first entry that is Gone afterwards
	}{
		{nil, wants(a, b), 0}, {nil, nil, 0},
		{[]entry.Entry{done(1, a), sent(2, b)}, wants(a, b), 2}, {[]entry.Entry{done(1, a), sent(2, b)}, wants(a, b, c), 2},
		{[]entry.Entry{done(1, a), sent(2, b)}, wants(a), 1}, {[]entry.Entry{done(1, a), sent(2, b)}, nil, 0},
		{[]entry.Entry{done(1, a), sent(2, b)}, wants(a, c), 1}, {[]entry.Entry{done(1, a), sent(2, b)}, wants(c, b), 0}, {[]entry.Entry{done(1, c)}, wants(d), 0},
		{[]entry.Entry{done(1, a), done(2, b), done(3, c)}, wants(a, c, c), 1},
		{[]entry.Entry{gone(done(1, a)), done(2, b), done(3, c)}, wants(a, b, c), 0},
		{[]entry.Entry{done(1, a), gone(done(2, b)), done(3, c)}, wants(a, b, c), 1},
		{[]entry.Entry{done(1, a), gone(sent(2, b))}, wants(a, b), 1},
		{[]entry.Entry{done(1, a), back(done(2, b), 2, 5)}, wants(a, b), 1},
	}
	for i, x := range cases {
		in := of(9, x.stack...)
		saved := chain.Clone(in)
		want := chain.Clone(in)
		for j := x.gone; j < len(want.Stack); j++ {
			want.Stack[j].Gone = true
		}
		got := chain.Settle(in, x.want)
		if !same(got, want) {
			t.Errorf("P21.1: Settle %d = %v; want %v", i, got, want)
		}
		for j, e := range got.Stack {
			if !e.Gone && (j >= len(x.want) || e.What != x.want[j]) || e.Gone && slices.ContainsFunc(got.Stack[j:], func(e entry.Entry) bool { return !e.Gone }) {
				t.Errorf("P21.2: Settle %d = %v", i, got)
			}
		}
		for j := range got.Stack {
			got.Stack[j].Sent = 8
		}
		if !same(in, saved) {
			t.Errorf("P2: Settle %d changed or keeps its argument", i)
		}
	}
}

func tried(e entry.Entry, n int) entry.Entry {
	e.Sent = n
	return e
}

// next describes a chain and its next request.
type next struct {
	c    chain.Chain
	want []api.Effect
	key  api.Key
	what api.Effect
	ok   bool
}

func nexts() []next {
	return []next{
		{of(0), nil, api.Key{}, api.Effect{}, false},
		{of(0), wants(a, b), key(1, false), a, true},
		{of(4), wants(a, b), key(5, false), a, true},
		{of(1, sent(1, a)), wants(a, b), key(1, false), a, true},
		{of(1, done(1, a)), wants(a, b), key(2, false), b, true},
		{of(1, done(1, a)), wants(a), api.Key{}, api.Effect{}, false},
		{of(1, done(1, a)), nil, api.Key{}, api.Effect{}, false},
		{of(6, done(1, a), sent(6, b)), wants(a, b), key(6, false), b, true},
		{of(6, done(1, a), gone(sent(6, b))), wants(a), key(6, false), b, true},
		{of(6, done(1, a), gone(done(6, b))), wants(a), key(6, true), b, true},
		{of(6, done(1, a), back(done(6, b), 3, 5)), wants(a, c), key(6, true), b, true},
		{of(6, sent(1, a), done(6, b)), wants(a, b), api.Key{}, api.Effect{}, false},
		{of(6, sent(1, a), done(6, b)), wants(a, b, c), key(7, false), c, true},
		{of(6, gone(done(1, a)), done(6, b)), wants(a, b, c), key(7, false), c, true},
		{of(3, tried(sent(3, a), 7)), wants(a), key(3, false), a, true},
		{of(3, tried(sent(3, a), 8)), wants(a), api.Key{}, api.Effect{}, false},
		{of(3, tried(gone(sent(3, a)), 8)), wants(a), api.Key{}, api.Effect{}, false},
		{of(3, back(tried(done(3, a), 8), 7, 5)), wants(a), key(3, true), a, true},
		{of(3, back(tried(done(3, a), 1), 8, 5)), wants(a), api.Key{}, api.Effect{}, false},
		{of(3, tried(done(3, a), 8)), wants(a, b), key(4, false), b, true},
		{of(254, done(3, a)), wants(a, b), key(255, false), b, true},
		{of(255, done(3, a)), wants(a, b), api.Key{}, api.Effect{}, false},
		{of(255, sent(3, a)), wants(a, b), key(3, false), a, true},
		{of(255, gone(done(3, a))), wants(b), key(3, true), a, true},
	}
}

// P21.1: Next, in every state of the topmost entry.
func TestNext(t *testing.T) {
	for i, x := range nexts() {
		q, ok := chain.Next(x.c, x.want)
		if want := (api.Request{Key: x.key, What: x.what}); q != want || ok != x.ok {
			t.Errorf("P21.1: Next %d = %v, %v; want %v, %v", i, q, ok, want, x.ok)
		}
	}
}

// P21.1: Try tries just this request.
func TestTry(t *testing.T) {
	for i, x := range nexts() {
		saved := chain.Clone(x.c)
		want := chain.Clone(x.c)
		last := len(want.Stack) - 1
		if x.ok && last >= 0 && entry.Open(want.Stack[last]) {
			want.Stack[last] = entry.Try(want.Stack[last], 33)
		} else if x.ok {
			want.Made++
			want.Stack = append(want.Stack, entry.Entry{Ord: want.Made, What: x.what, Sent: 1, Last: 33})
		}
		got, ok := chain.Try(x.c, x.want, 33)
		if ok != x.ok || !same(got, want) {
			t.Errorf("P21.1: Try %d = %v, %v; want %v, %v", i, got, ok, want, x.ok)
		}
		for j := range got.Stack {
			got.Stack[j].Ord = 99
		}
		if !same(x.c, saved) {
			t.Errorf("P2: Try %d changed or keeps its argument", i)
		}
	}
}

// P21.1: Ready and Dead follow the topmost entry, or Most.
func TestReadyDead(t *testing.T) {
	for i, x := range nexts() {
		for _, most := range []int{-1, 0, 1, 2, 5, 8, 9} {
			for _, now := range []int{0, 5, 7, 10, 12, 13, 14, 16, 50} {
				g := api.Config{Most: most, Base: 3, Cap: 6}
				ready, dead := x.ok && most >= 1, false
				if n := len(x.c.Stack); n > 0 {
					if e := x.c.Stack[n-1]; entry.Open(e) {
						ready, dead = x.ok && entry.Ready(e, g, now), entry.Dead(e, g, now)
					}
				}
				if chain.Ready(x.c, x.want, g, now) != ready || chain.Dead(x.c, g, now) != dead {
					t.Errorf("P21.1: chain %d, Most %d, at %d: Ready %v, Dead %v", i, most, now, chain.Ready(x.c, x.want, g, now), chain.Dead(x.c, g, now))
				}
			}
		}
	}
	low := of(5, tried(sent(1, a), 3), done(2, b))
	if chain.Dead(low, api.Config{Most: 1, Base: 1, Cap: 1}, 99) {
		t.Error("P21.1: Dead looks below the top")
	}
}

// P21.1: answers.
func TestAck(t *testing.T) {
	stack := of(9, sent(1, a), done(3, b), gone(sent(4, c)), back(done(6, d), 1, 5))
	top := func(e entry.Entry) chain.Chain { return of(9, done(1, a), e) }
	acked := func(at int) chain.Chain {
		c := chain.Clone(stack)
		c.Stack[at].Acked = true
		return c
	}
	other := key(1, false)
	other.Id.Seq++
	cases := []struct {
		c    chain.Chain
		k    api.Key
		want chain.Chain
		ok   bool
	}{
		{stack, key(1, false), acked(0), true}, {stack, key(3, false), stack, false}, {stack, key(4, false), acked(2), true}, {stack, key(6, false), stack, false},
		{stack, key(2, false), stack, false}, {stack, key(0, false), stack, false}, {stack, other, stack, false}, {stack, key(9, false), stack, false},
		{stack, key(6, true), of(9, stack.Stack[:3]...), true}, {stack, key(1, true), stack, false}, {stack, key(3, true), stack, false}, {stack, key(4, true), stack, false}, {stack, key(7, true), stack, false},
		{top(back(done(5, b), 0, 0)), key(5, true), top(back(done(5, b), 0, 0)), false},
		{top(done(5, b)), key(5, true), top(done(5, b)), false},
		{top(gone(sent(5, b))), key(5, true), top(gone(sent(5, b))), false},
		{top(back(sent(5, b), 2, 2)), key(5, true), top(back(sent(5, b), 2, 2)), false},
		{of(9, back(done(2, a), 2, 2), back(done(5, b), 2, 2)), key(2, true), of(9, back(done(2, a), 2, 2), back(done(5, b), 2, 2)), false},
		{of(9, back(done(2, a), 2, 2), back(done(5, b), 2, 2)), key(5, true), of(9, back(done(2, a), 2, 2)), true},
		{of(9, back(done(2, a), 2, 2)), key(2, true), of(9), true},
		{of(0), key(1, false), of(0), false},
	}
	for i, x := range cases {
		saved := chain.Clone(x.c)
		got, ok := chain.Ack(x.c, x.k)
		if ok != x.ok || !same(got, x.want) {
			t.Errorf("P21.1: Ack %d = %v, %v; want %v, %v", i, got, ok, x.want, x.ok)
		}
		for j := range got.Stack {
			got.Stack[j].Ord = 99
		}
		if !same(x.c, saved) {
			t.Errorf("P2: Ack %d changed or keeps its argument", i)
		}
	}
	wrong := key(6, true)
	wrong.Id.Replica++
	if _, ok := chain.Ack(stack, wrong); ok {
		t.Error("P21.1: Ack of another change")
	}
}

// P21.1: Quiet counts, and examines every entry.
func TestQuiet(t *testing.T) {
	cases := []struct {
		c    chain.Chain
		want []api.Effect
		is   bool
	}{
		{of(0), nil, true}, {of(0), wants(a), false}, {of(2, done(1, a), done(2, b)), wants(a, b), true}, {of(2, done(1, a), done(2, b)), wants(a), false}, {of(2, done(1, a), done(2, b)), wants(a, b, c), false},
		{of(2, sent(1, a), done(2, b)), wants(a, b), false}, {of(2, done(1, a), sent(2, b)), wants(a, b), false}, {of(2, done(1, a), gone(done(2, b))), wants(a, b), false}, {of(2, gone(done(1, a)), done(2, b)), wants(a, b), false}, {of(1, gone(sent(1, a))), wants(a), false},
	}
	for i, x := range cases {
		if chain.Quiet(x.c, x.want) != x.is {
			t.Errorf("P21.1: Quiet %d = %v", i, !x.is)
		}
	}
}

// P21.1: the example: what is not wanted any more is undone before the new effect is tried.
func TestExample(t *testing.T) {
	x := of(0)
	do := func(want []api.Effect, k api.Key, what api.Effect) {
		t.Helper()
		x = chain.Settle(x, want)
		if q, ok := chain.Next(x, want); !ok || q.Key != k || q.What != what {
			t.Fatalf("P21.1: Next = %v, %v; want %v", q, ok, k)
		}
		var ok bool
		if x, ok = chain.Try(x, want, 5); !ok {
			t.Fatal("P21.1: Try")
		}
		if x, ok = chain.Ack(x, k); !ok {
			t.Fatal("P21.1: Ack")
		}
	}
	do(wants(a, b), key(1, false), a)
	do(wants(c), key(1, true), a)
	do(wants(c), key(2, false), c)
	if !chain.Quiet(x, wants(c)) || x.Made != 2 || len(x.Stack) != 1 {
		t.Error("P21.1: at the end", x)
	}
}

// P21.1, P2, P1: Clone, and odd arguments.
func TestClone(t *testing.T) {
	x := of(4, done(1, a), sent(2, b))
	y := chain.Clone(x)
	if !same(x, y) {
		t.Error("P21.1: Clone", y)
	}
	y.Stack[0].Ord = 9
	_ = append(y.Stack[:1], sent(8, c))
	if x.Stack[0].Ord != 1 || x.Stack[1].Ord != 2 {
		t.Error("P2: Clone shares memory")
	}
	for _, n := range []int{math.MaxInt, 256, 1 << 40, math.MinInt, -1} {
		chain.Next(of(n), wants(a))
		chain.Try(of(n), wants(a), n)
	}
	odd := of(math.MinInt, entry.Entry{Sent: math.MaxInt, Last: math.MinInt, Back: math.MinInt})
	chain.Try(odd, wants(a), math.MaxInt)
	chain.Ack(odd, api.Key{})
	chain.Ready(odd, wants(a), api.Config{Most: math.MaxInt}, math.MinInt)
}
