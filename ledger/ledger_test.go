package ledger_test

import (
	"math"
	"slices"
	"testing"

	"countermand/api"
	"countermand/chain"
	"countermand/entry"
	"countermand/ledger"
)

var (
	a = api.Effect{Kind: 1, A: 1, N: 1}
	b = api.Effect{Kind: 4, A: 2, N: 2}
	c = api.Effect{Kind: 7, A: 3, N: 3}
)

var config = api.Config{Replicas: 3, Sectors: 9, Most: 2, Base: 3, Cap: 10}

func wants(l ...api.Effect) []api.Effect { return l }

func key(seq, ord int, undo bool) api.Key {
	return api.Key{Id: api.Id{Replica: 2, Seq: seq}, Ord: ord, Undo: undo}
}

func request(seq, ord int, undo bool, what api.Effect) api.Request {
	return api.Request{Key: key(seq, ord, undo), What: what}
}

func of(seq, made int, l ...entry.Entry) chain.Chain {
	return chain.Chain{Id: api.Id{Replica: 2, Seq: seq}, Made: made, Stack: l}
}

func sent(ord int, what api.Effect, last int) entry.Entry {
	return entry.Entry{Ord: ord, What: what, Sent: 1, Last: last}
}

func acked(e entry.Entry) entry.Entry {
	e.Acked = true
	return e
}

func check(t *testing.T, name string, l *ledger.Ledger, chains ...chain.Chain) {
	t.Helper()
	got := l.Chains()
	if len(got) != len(chains) {
		t.Fatalf("P22.1: %s: %d chains", name, len(got))
	}
	for i, x := range chains {
		if got[i].Id != x.Id || got[i].Made != x.Made || !slices.Equal(got[i].Stack, x.Stack) {
			t.Errorf("P22.1: %s: chain %d = %v; want %v", name, i, got[i], x)
		}
	}
}

// P22.1: Put adds the next chain, or sets and settles one.
func TestPut(t *testing.T) {
	l := ledger.New(2)
	check(t, "new", l)
	if !l.Quiet() || len(l.Wants()) != 0 || len(l.Ready(config, 0)) != 0 || len(l.Dead(config, 0)) != 0 {
		t.Error("P22.1: a new ledger")
	}
	for _, seq := range []int{0, -1, 2, 3, math.MaxInt, math.MinInt} {
		if l.Put(seq, wants(a)) {
			t.Errorf("P22.1: Put(%d) into a new ledger", seq)
		}
	}
	if !l.Put(1, wants(a, b)) || l.Put(3, nil) || !l.Put(2, nil) || !l.Put(3, wants(c)) || l.Put(5, nil) || l.Put(0, nil) {
		t.Error("P22.1: Put")
	}
	check(t, "Put", l, of(1, 0), of(2, 0), of(3, 0))
	if w := l.Wants(); len(w) != 3 || !slices.Equal(w[0], wants(a, b)) || len(w[1]) != 0 || !slices.Equal(w[2], wants(c)) {
		t.Error("P22.1: Wants", w)
	}
	l.Try(key(1, 1, false), 5)
	l.Try(key(3, 1, false), 6)
	check(t, "Try", l, of(1, 1, sent(1, a, 5)), of(2, 0), of(3, 1, sent(1, c, 6)))
	if !l.Put(1, wants(b)) || !l.Put(2, wants(b)) {
		t.Error("P22.1: Put of an existing chain")
	}
	e := sent(1, a, 5)
	e.Gone = true
	check(t, "Put again", l, of(1, 1, e), of(2, 0), of(3, 1, sent(1, c, 6)))
	if w := l.Wants(); !slices.Equal(w[0], wants(b)) || !slices.Equal(w[1], wants(b)) || !slices.Equal(w[2], wants(c)) {
		t.Error("P22.1: Wants after Put again", w)
	}
}

// three returns a ledger with a chain of each sort: one not begun, one sent at 10, one done, one to be undone.
func three() *ledger.Ledger {
	l := ledger.New(2)
	l.Put(1, wants(a, b))
	l.Put(2, wants(b))
	l.Put(3, wants(c))
	l.Put(4, wants(a))
	l.Load(of(2, 4, sent(4, b, 10)))
	l.Load(of(3, 2, acked(sent(2, c, 1))))
	l.Load(of(4, 3, acked(sent(1, a, 3)), acked(sent(3, b, 3))))
	return l
}

// P22.1: Next and Ready.
func TestNext(t *testing.T) {
	l := three()
	want := map[int]api.Request{1: request(1, 1, false, a), 2: request(2, 4, false, b), 4: request(4, 3, true, b)}
	for _, seq := range []int{math.MinInt, -1, 0, 1, 2, 3, 4, 5, math.MaxInt} {
		q, ok := l.Next(seq)
		if w, has := want[seq]; q != w || ok != has {
			t.Errorf("P22.1: Next(%d) = %v, %v", seq, q, ok)
		}
	}
	for now, ready := range map[int][]api.Request{0: {want[1], want[4]}, 12: {want[1], want[4]}, 13: {want[1], want[2], want[4]}, 99: {want[1], want[2], want[4]}} {
		if got := l.Ready(config, now); !slices.Equal(got, ready) {
			t.Errorf("P22.1: Ready at %d = %v; want %v", now, got, ready)
		}
	}
	none := config
	none.Most = 0
	if got := l.Ready(none, 99); len(got) != 0 {
		t.Error("P22.1: Ready with Most 0", got)
	}
	once := config
	once.Most = 1
	if got := l.Ready(once, 99); !slices.Equal(got, []api.Request{want[1], want[4]}) {
		t.Error("P22.1: Ready with Most 1", got)
	}
}

// P22.1: Try accepts the next request only.
func TestTry(t *testing.T) {
	l := three()
	before := l.Chains()
	wrong := []api.Key{key(1, 2, false), key(1, 1, true), key(1, 0, false), key(2, 1, false), key(2, 4, true), key(3, 2, false), key(3, 3, false), key(4, 3, false), key(4, 1, true), key(5, 1, false), key(0, 1, false), key(-1, 1, false), {}, {Id: api.Id{Replica: 1, Seq: 1}, Ord: 1}, {Id: api.Id{Replica: 3, Seq: 2}, Ord: 4}}
	for _, k := range wrong {
		if l.Try(k, 20) {
			t.Errorf("P22.1: Try of %v", k)
		}
	}
	check(t, "wrong Try", l, before...)
	for _, k := range []api.Key{key(1, 1, false), key(2, 4, false), key(4, 3, true)} {
		if !l.Try(k, 20) {
			t.Errorf("P22.1: Try of %v", k)
		}
	}
	second := sent(4, b, 20)
	second.Sent = 2
	back := acked(sent(3, b, 3))
	back.Gone, back.Back, back.BackLast = true, 1, 20
	check(t, "Try", l, of(1, 1, sent(1, a, 20)), of(2, 4, second), before[2], of(4, 3, acked(sent(1, a, 3)), back))
	if !l.Try(key(2, 4, false), 0) {
		t.Error("P22.1: Try examines more than the key")
	}
}

// P22.1: Ack.
func TestAck(t *testing.T) {
	l := three()
	before := l.Chains()
	for _, k := range []api.Key{key(1, 1, false), key(2, 4, true), key(2, 1, false), key(3, 2, false), key(4, 3, true), key(4, 1, true), key(5, 1, false), key(0, 4, false), {Id: api.Id{Replica: 1, Seq: 2}, Ord: 4}, {}} {
		if l.Ack(k) {
			t.Errorf("P22.1: Ack of %v", k)
		}
	}
	check(t, "wrong Ack", l, before...)
	l.Try(key(4, 3, true), 7)
	if !l.Ack(key(2, 4, false)) || !l.Ack(key(4, 3, true)) {
		t.Error("P22.1: Ack")
	}
	check(t, "Ack", l, before[0], of(2, 4, acked(sent(4, b, 10))), before[2], of(4, 3, acked(sent(1, a, 3))))
	if l.Ack(key(2, 4, false)) || l.Ack(key(4, 3, true)) {
		t.Error("P22.1: Ack twice")
	}
}

// P22.1: Load, what it settles and what it rejects.
func TestLoad(t *testing.T) {
	l := three()
	bad := entry.Entry{Ord: 1, What: a}
	wrong := []chain.Chain{of(0, 1), of(5, 1), of(-1, 1), {Id: api.Id{Replica: 1, Seq: 1}}, {Id: api.Id{Replica: 3, Seq: 4}}, of(1, -1), of(1, 256), of(1, math.MaxInt), of(1, math.MinInt), of(1, 0, sent(1, a, 1)), of(1, 2, sent(3, a, 1)), of(1, 9, sent(2, a, 1), sent(2, b, 1)), of(1, 9, sent(2, a, 1), sent(1, b, 1)), of(1, 9, sent(0, a, 1)), of(1, 9, sent(-1, a, 1)), of(1, 9, bad), of(1, 9, sent(1, a, 1), sent(2, b, -1)), of(1, 9, sent(1, api.Effect{}, 1)), of(1, 9, sent(2, a, 1), sent(3, b, 1), sent(3, b, 1))}
	before := l.Chains()
	for i, x := range wrong {
		if l.Load(x) {
			t.Errorf("P22.1: Load %d of %v", i, x)
		}
	}
	check(t, "wrong Load", l, before...)
	in := of(1, 255, sent(2, a, 1), acked(sent(254, c, 1)), sent(255, b, 1))
	if !l.Load(in) {
		t.Error("P22.1: Load")
	}
	want := chain.Clone(in)
	want.Stack[1].Gone, want.Stack[2].Gone = true, true
	in.Stack[0].Ord = 77
	check(t, "Load", l, want, before[1], before[2], before[3])
	if !l.Load(of(1, 0)) || !l.Load(of(1, 255)) || !l.Load(of(1, 1, sent(1, a, 1))) {
		t.Error("P22.1: Load of the smallest and the greatest Made")
	}
}

// P22.1: Dead lists the keys of the next actions.
func TestDead(t *testing.T) {
	l := three()
	l.Try(key(4, 3, true), 20)
	once := config
	once.Most = 1
	cases := map[int][]api.Key{12: nil, 13: {key(2, 4, false)}, 22: {key(2, 4, false)}, 23: {key(2, 4, false), key(4, 3, true)}, 99: {key(2, 4, false), key(4, 3, true)}}
	for now, want := range cases {
		if got := l.Dead(once, now); !slices.Equal(got, want) {
			t.Errorf("P22.1: Dead at %d = %v; want %v", now, got, want)
		}
	}
	if got := l.Dead(config, 99); len(got) != 0 {
		t.Error("P22.1: Dead after fewer than Most tries", got)
	}
	full := sent(4, b, 10)
	full.Sent = 8
	l.Load(of(2, 4, full))
	if got := l.Dead(config, 99); !slices.Equal(got, []api.Key{key(2, 4, false)}) {
		t.Error("P22.1: Dead after MaxTries", got)
	}
}

// P22.1: Quiet asks every chain.
func TestQuiet(t *testing.T) {
	l := ledger.New(2)
	l.Put(1, wants(a))
	if l.Quiet() {
		t.Error("P22.1: Quiet with a request to be sent")
	}
	l.Try(key(1, 1, false), 1)
	if l.Quiet() {
		t.Error("P22.1: Quiet without an answer")
	}
	l.Ack(key(1, 1, false))
	l.Put(2, nil)
	if !l.Quiet() {
		t.Error("P22.1: not Quiet")
	}
	l.Put(3, wants(b))
	if l.Quiet() {
		t.Error("P22.1: Quiet looks at the first chain only")
	}
	l.Put(3, nil)
	l.Put(1, nil)
	if l.Quiet() {
		t.Error("P22.1: Quiet with an undoing to be sent")
	}
}

// P22.1, P2: clones and results are independent.
func TestMemory(t *testing.T) {
	l := three()
	before := l.Chains()
	k := l.Clone()
	check(t, "Clone", k, before...)
	k.Try(key(2, 4, false), 50)
	k.Put(1, wants(c))
	k.Put(5, wants(c))
	k.Ack(key(2, 4, false))
	check(t, "original", l, before...)
	if w := l.Wants(); !slices.Equal(w[0], wants(a, b)) {
		t.Error("P2: Clone shares the wanted effects")
	}
	l.Put(5, wants(a, a))
	if w := k.Wants(); len(w) != 5 || !slices.Equal(w[4], wants(c)) || !slices.Equal(w[0], wants(c)) {
		t.Error("P2: the original shares rows with its clone", w)
	}
	l = three()
	l.Chains()[3].Stack[0].Ord = 99
	l.Wants()[0][0].N = 99
	if w := l.Wants(); !slices.Equal(w[0], wants(a, b)) {
		t.Error("P2: Wants hands out the ledger's memory", w)
	}
	list := wants(a, b)
	l.Put(1, list)
	list[0].N = 99
	check(t, "changed results", l, before...)
	if q, _ := l.Next(1); q.What != a {
		t.Error("P2: the ledger shares wanted effects", q)
	}
}

// P22.1: a ledger of any replica names it.
func TestReplica(t *testing.T) {
	for _, r := range []int{0, 3} {
		l := ledger.New(r)
		l.Put(1, wants(a))
		if q, ok := l.Next(1); !ok || q.Key.Id != (api.Id{Replica: r, Seq: 1}) {
			t.Error("P22.1: Next of replica", r, q)
		}
	}
}

// P22.1, P1: a nil Ledger, and one that New did not create.
func TestUnmade(t *testing.T) {
	for _, l := range []*ledger.Ledger{nil, new(ledger.Ledger)} {
		if l.Put(1, nil) || len(l.Ready(config, 0)) != 0 || l.Try(api.Key{}, 0) || l.Ack(api.Key{}) || l.Load(chain.Chain{}) || l.Load(chain.Chain{Id: api.Id{Seq: 1}}) || len(l.Chains()) != 0 || len(l.Wants()) != 0 || len(l.Dead(config, 0)) != 0 || !l.Quiet() || l.Clone() != nil {
			t.Error("P22.1: an unmade ledger does something")
		}
		if q, ok := l.Next(1); ok || q != (api.Request{}) {
			t.Error("P22.1: an unmade ledger has a request")
		}
	}
}
