package world_test

import (
	"bytes"
	"math"
	"slices"
	"testing"

	"countermand/api"
	"countermand/code"
	"countermand/deal"
	"countermand/fold"
	"countermand/image"
	"countermand/msg"
	"countermand/peer"
	"countermand/record"
	"countermand/state"
	"countermand/world"
)

func id(replica, seq int) api.Id { return api.Id{Replica: replica, Seq: seq} }

var usual = api.Config{Replicas: 3, Sectors: 20, Most: 2, Base: 3, Cap: 10}

func fresh(t *testing.T, c api.Config) *world.World {
	t.Helper()
	w, e := world.New(c)
	if e != api.OK || w == nil {
		t.Fatal("P32.1: New", e)
	}
	return w
}

// The steps.
func submit(r int, c api.Change) api.Step { return api.Step{Kind: 1, R: r, C: c} }
func sync(r int) api.Step                 { return api.Step{Kind: 2, R: r} }
func ask(r, i int) api.Step               { return api.Step{Kind: 3, R: r, I: i} }
func commit(n int) api.Step               { return api.Step{Kind: 4, N: n} }
func pump(r int) api.Step                 { return api.Step{Kind: 5, R: r} }
func tick(n int) api.Step                 { return api.Step{Kind: 6, N: n} }
func deliver(i int) api.Step              { return api.Step{Kind: 7, I: i} }
func drop(i int) api.Step                 { return api.Step{Kind: 8, I: i} }
func copy1(i int) api.Step                { return api.Step{Kind: 9, I: i} }
func flip(i, n int) api.Step              { return api.Step{Kind: 10, I: i, N: n} }
func refuse(n int) api.Step               { return api.Step{Kind: 11, N: n} }
func crash(r int) api.Step                { return api.Step{Kind: 12, R: r} }
func restart(r int) api.Step              { return api.Step{Kind: 13, R: r} }
func arm(r, n int) api.Step               { return api.Step{Kind: 14, R: r, N: n} }
func pack(r int) api.Step                 { return api.Step{Kind: 15, R: r} }

func restock(n int64) api.Change         { return api.Change{Kind: 1, A: 3, N: n} }
func place(n int64) api.Change           { return api.Change{Kind: 3, A: 2, B: 3, N: n} }
func fine(n, m int) api.Answer           { return api.Answer{N: n, M: m} }
func failed(e api.Errno) api.Answer      { return api.Answer{Code: e} }
func full(e api.Errno, n int) api.Answer { return api.Answer{Code: e, N: n} }

func step(t *testing.T, w *world.World, x api.Step, want api.Answer) {
	t.Helper()
	if got := w.Step(x); got != want {
		t.Errorf("P32.1: Step(%v) = %v; want %v", x, got, want)
	}
}

// unchanged checks that a step is answered with an error and changes nothing.
func unchanged(t *testing.T, w *world.World, x api.Step, want api.Errno) {
	t.Helper()
	before := digest(w)
	step(t, w, x, failed(want))
	if digest(w) != before {
		t.Errorf("P32.1: Step(%v) has an effect", x)
	}
}

// digest is all that a world tells, as text.
func digest(w *world.World) string {
	var out []byte
	for r := range w.Config().Replicas {
		out = append(out, image.Put(w.State(r))...)
		out = append(out, image.Put(w.Stored(r))...)
		if w.Up(r) {
			out = append(out, '!')
		}
	}
	x := w.Wire()
	for x.Len() > 0 {
		out = append(out, byte(x.To(0)))
		if x.Broken(0) {
			out = append(out, '!')
		}
		b, _ := x.Take(0)
		out = append(out, b...)
	}
	for _, q := range w.Gate().Applied() {
		out = append(out, byte(q.Key.Id.Replica), byte(q.Key.Id.Seq), byte(q.Key.Ord), byte(q.What.Kind), byte(q.What.N))
	}
	for _, s := range w.Sent() {
		out = append(out, byte(s.Replica), byte(s.Now), byte(s.Key.Id.Seq), byte(s.Key.Ord))
	}
	return string(append(out, byte(w.Now()>>8), byte(w.Now()), byte(w.Submitted()), byte(w.Gate().Refusing())))
}

func messages(t *testing.T, w *world.World) []msg.Msg {
	t.Helper()
	var l []msg.Msg
	x := w.Wire()
	for x.Len() > 0 {
		to := x.To(0)
		b, _ := x.Take(0)
		m, e := msg.Get(b)
		if e != api.OK || m.To != to {
			t.Fatalf("P32.1: a wrong message on the wire: %v to %d, %d", m, to, e)
		}
		l = append(l, m)
	}
	return l
}

func onWire(t *testing.T, w *world.World, want ...msg.Msg) {
	t.Helper()
	if got := messages(t, w); !slices.EqualFunc(got, want, msg.Same) {
		t.Errorf("P32.1: on the wire: %v; want %v", got, want)
	}
}

// P32.1: the bounds of configs.
func TestCheck(t *testing.T) {
	fields := []struct {
		set func(c *api.Config, n int)
		hi  int
	}{{func(c *api.Config, n int) { c.Replicas = n }, 4}, {func(c *api.Config, n int) { c.Sectors = n }, 64}, {func(c *api.Config, n int) { c.Most = n }, 8}, {func(c *api.Config, n int) { c.Base = n }, 64}, {func(c *api.Config, n int) { c.Cap = n }, 64}}
	for i, f := range fields {
		for n, want := range map[int]api.Errno{1: api.OK, f.hi: api.OK, 0: api.ErrConfig, -1: api.ErrConfig, f.hi + 1: api.ErrConfig, math.MaxInt: api.ErrConfig, math.MinInt: api.ErrConfig} {
			c := usual
			f.set(&c, n)
			w, e := world.New(c)
			if world.Check(c) != want || e != want || (w != nil) != (want == api.OK) {
				t.Errorf("P32.1: Check with field %d = %d: %d, %d", i, n, world.Check(c), e)
			}
			if want == api.OK && w.Config() != c {
				t.Error("P32.1: Config", w.Config())
			}
		}
	}
	if world.Check(api.Config{}) != api.ErrConfig {
		t.Error("P32.1: Check of the zero value")
	}
}

// P32.1: a new world.
func TestNew(t *testing.T) {
	for n := 1; n <= 4; n++ {
		c := usual
		c.Replicas = n
		w := fresh(t, c)
		for _, r := range []int{-1, 0, 1, 2, 3, 4, math.MaxInt, math.MinInt} {
			has := r >= 0 && r < n
			if w.Up(r) != has || (w.State(r) != nil) != has || (w.Stored(r) != nil) != has || has && !image.Same(w.State(r), state.New(r)) {
				t.Errorf("P32.1: a new world of %d: replica %d", n, r)
			}
		}
		if w.Now() != 0 || w.Submitted() != 0 || len(w.Sent()) != 0 || w.Wire().Len() != 0 || len(w.Gate().Applied()) != 0 || w.Gate().Refusing() != 0 {
			t.Error("P32.1: a new world is not empty")
		}
	}
}

// P32.1: the errors that come first: those of code.Check, then the replica.
func TestFirstErrors(t *testing.T) {
	w := fresh(t, usual)
	unchanged(t, w, api.Step{}, api.ErrKind)
	unchanged(t, w, api.Step{Kind: 16}, api.ErrKind)
	unchanged(t, w, api.Step{Kind: 2, R: 256}, api.ErrRange)
	unchanged(t, w, api.Step{Kind: 2, R: -1}, api.ErrRange)
	unchanged(t, w, api.Step{Kind: 2, R: 3, N: 1}, api.ErrSyntax)
	unchanged(t, w, api.Step{Kind: 4, N: 1, I: 1}, api.ErrSyntax)
	unchanged(t, w, api.Step{Kind: 1, C: api.Change{Time: 1}}, api.ErrSyntax)
	for _, kind := range []int{1, 2, 3, 5, 12, 13, 14, 15} {
		for _, r := range []int{3, 4, 255} {
			unchanged(t, w, api.Step{Kind: kind, R: r}, api.ErrRange)
		}
	}
}

// P32.1: submit.
func TestSubmit(t *testing.T) {
	w := fresh(t, usual)
	step(t, w, submit(1, restock(5)), fine(1, 0))
	step(t, w, submit(1, place(9)), fine(2, int(api.ErrShort)))
	step(t, w, submit(1, place(5)), fine(3, 0))
	step(t, w, submit(0, place(5)), fine(1, int(api.ErrShort)))
	step(t, w, submit(0, api.Change{Kind: 99}), fine(2, int(api.ErrKind)))
	if w.Submitted() != 5 || len(w.State(1).Logs().Tentative()) != 3 || len(w.Stored(1).Logs().Tentative()) != 0 {
		t.Error("P32.1: submit", w.Submitted())
	}
	step(t, w, crash(2), fine(0, 0))
	unchanged(t, w, submit(2, restock(5)), api.ErrDown)
	small := usual
	small.Sectors = 1
	w = fresh(t, small)
	step(t, w, submit(0, restock(5)), fine(1, 0))
	unchanged(t, w, submit(0, restock(5)), api.ErrFull)
	if w.Submitted() != 1 {
		t.Error("P32.1: a submit that fails counts")
	}
}

// P32.1: changes that were submitted count, also if they are lost.
func TestSubmitCount(t *testing.T) {
	w := fresh(t, usual)
	for i := range api.MaxChanges {
		step(t, w, submit(i%3, restock(1)), fine(1, 0))
		step(t, w, crash(i%3), fine(0, 0))
		if i < api.MaxChanges-1 {
			step(t, w, restart(i%3), fine(0, 0))
		}
	}
	unchanged(t, w, submit(0, restock(1)), api.ErrCount)
	unchanged(t, w, submit(2, restock(1)), api.ErrCount)
	if w.Submitted() != api.MaxChanges {
		t.Error("P32.1: Submitted", w.Submitted())
	}
}

// P32.1: sync, crash and restart.
func TestCrash(t *testing.T) {
	w := fresh(t, usual)
	step(t, w, submit(1, restock(5)), fine(1, 0))
	step(t, w, sync(1), fine(0, 0))
	step(t, w, submit(1, restock(6)), fine(2, 0))
	unchanged(t, w, restart(1), api.ErrState)
	step(t, w, crash(1), fine(0, 0))
	if w.Up(1) || !w.Up(0) || !w.Up(2) || len(w.State(1).Logs().Tentative()) != 1 {
		t.Error("P32.1: crash")
	}
	unchanged(t, w, crash(1), api.ErrDown)
	unchanged(t, w, sync(1), api.ErrDown)
	unchanged(t, w, pump(1), api.ErrDown)
	unchanged(t, w, pack(1), api.ErrDown)
	unchanged(t, w, arm(1, 5), api.ErrDown)
	unchanged(t, w, ask(1, 0), api.ErrDown)
	step(t, w, restart(1), fine(0, 0))
	if !w.Up(1) || len(w.State(1).Logs().Tentative()) != 1 {
		t.Error("P32.1: restart")
	}
	step(t, w, submit(1, restock(6)), fine(2, 0))
}

// P32.1: ask.
func TestAsk(t *testing.T) {
	w := fresh(t, usual)
	step(t, w, submit(1, restock(5)), fine(1, 0))
	for _, i := range []int{1, 3, 4, 9, 255} {
		unchanged(t, w, ask(1, i), api.ErrRange)
	}
	step(t, w, ask(1, 2), fine(1, 0))
	onWire(t, w, peer.Ask(w.State(1), 2))
	if len(w.Stored(1).Logs().Tentative()) != 1 {
		t.Error("P32.1: ask does not sync")
	}
	step(t, w, crash(2), fine(0, 0))
	step(t, w, ask(1, 2), fine(1, 0))
	for range 126 {
		step(t, w, ask(0, 1), fine(1, 0))
	}
	step(t, w, submit(1, restock(6)), fine(2, 0))
	step(t, w, ask(1, 0), fine(0, 0))
	if w.Wire().Len() != 128 || len(w.Stored(1).Logs().Tentative()) != 2 {
		t.Error("P32.1: ask without space on the wire")
	}
	step(t, w, submit(0, restock(6)), fine(1, 0))
	step(t, w, arm(0, 1), fine(0, 0))
	step(t, w, ask(0, 1), failed(api.ErrDown))
	if w.Up(0) {
		t.Error("P32.1: ask with a disk that dies")
	}
}

// P32.1: commit.
func TestCommit(t *testing.T) {
	w := fresh(t, usual)
	for _, n := range []int{0, 17, 1000, math.MaxInt32} {
		unchanged(t, w, commit(n), api.ErrRange)
	}
	step(t, w, commit(16), fine(0, 0))
	for i := range 20 {
		step(t, w, submit(0, restock(1)), fine(i+1, 0))
		step(t, w, sync(0), fine(0, 0))
	}
	step(t, w, commit(16), full(api.ErrFull, 3))
}

// P32.1: how many changes a commit commits, and which.
func TestCommitNumbers(t *testing.T) {
	w := fresh(t, api.Config{Replicas: 2, Sectors: 64, Most: 2, Base: 3, Cap: 10})
	for i := range 20 {
		step(t, w, submit(0, restock(1)), fine(i+1, 0))
	}
	step(t, w, commit(1), fine(1, 0))
	step(t, w, commit(2), fine(2, 0))
	step(t, w, commit(16), fine(16, 0))
	if l := w.State(0).Logs().Committed(); len(l) != 19 || l[18].Id != id(0, 19) || len(w.Stored(0).Logs().Committed()) != 0 {
		t.Error("P32.1: commit", len(l))
	}
	step(t, w, commit(16), fine(1, 0))
	step(t, w, commit(16), fine(0, 0))
	step(t, w, crash(0), fine(0, 0))
	unchanged(t, w, commit(1), api.ErrDown)
	unchanged(t, w, commit(0), api.ErrRange)
	step(t, w, submit(1, restock(1)), fine(1, 0))
}

// P32.1: commit without space for all records.
func TestCommitFull(t *testing.T) {
	w := fresh(t, api.Config{Replicas: 1, Sectors: 4, Most: 2, Base: 3, Cap: 10})
	for i := range 3 {
		step(t, w, submit(0, restock(1)), fine(i+1, 0))
	}
	step(t, w, commit(5), fine(3, 0))
	w = fresh(t, api.Config{Replicas: 1, Sectors: 3, Most: 2, Base: 3, Cap: 10})
	step(t, w, submit(0, restock(1)), fine(1, 0))
	step(t, w, submit(0, restock(1)), fine(2, 0))
	step(t, w, commit(1), fine(1, 0))
	step(t, w, commit(1), fine(1, 0))
	step(t, w, commit(1), fine(0, 0))
	w = fresh(t, api.Config{Replicas: 1, Sectors: 5, Most: 2, Base: 3, Cap: 10})
	for i := range 5 {
		step(t, w, submit(0, restock(1)), fine(i+1, 0))
	}
	step(t, w, commit(5), full(api.ErrFull, 0))
	w = fresh(t, api.Config{Replicas: 1, Sectors: 6, Most: 2, Base: 3, Cap: 10})
	for i := range 5 {
		step(t, w, submit(0, restock(1)), fine(i+1, 0))
	}
	step(t, w, commit(5), full(api.ErrFull, 3))
	if l := w.State(0).Logs().Committed(); len(l) != 3 {
		t.Error("P32.1: commit without space", len(l))
	}
	step(t, w, commit(5), full(api.ErrFull, 0))
}

// P32.1: pump.
func TestPump(t *testing.T) {
	w := fresh(t, usual)
	step(t, w, pump(1), fine(0, 0))
	step(t, w, submit(1, restock(9)), fine(1, 0))
	step(t, w, submit(1, place(2)), fine(2, 0))
	step(t, w, submit(1, place(3)), fine(3, 0))
	step(t, w, tick(4), fine(4, 0))
	step(t, w, pump(1), fine(2, 0))
	what := func(seq int, n int64) (api.Key, api.Effect) {
		return api.Key{Id: id(1, seq), Ord: 1}, api.Effect{Kind: 1, A: 3, N: n, Ref: id(1, seq)}
	}
	k2, e2 := what(2, 2)
	k3, e3 := what(3, 3)
	onWire(t, w, msg.Msg{Kind: 3, From: 1, To: 9, Key: k2, What: e2}, msg.Msg{Kind: 3, From: 1, To: 9, Key: k3, What: e3})
	sent := []api.Sent{{Replica: 1, Now: 4, Key: k2, What: e2}, {Replica: 1, Now: 4, Key: k3, What: e3}}
	if !slices.Equal(w.Sent(), sent) || len(w.Stored(1).Chains()[1].Stack) != 1 {
		t.Error("P32.1: pump: Sent", w.Sent())
	}
	step(t, w, pump(1), fine(0, 0))
	step(t, w, tick(2), fine(6, 0))
	step(t, w, pump(1), fine(0, 0))
	step(t, w, tick(1), fine(7, 0))
	step(t, w, pump(1), fine(2, 0))
	if l := w.Sent(); len(l) != 4 || l[3] != (api.Sent{Replica: 1, Now: 7, Key: k3, What: e3}) {
		t.Error("P32.1: pump again: Sent", l)
	}
	step(t, w, tick(1000), fine(1007, 0))
	step(t, w, pump(1), fine(0, 0))
}

// P32.1: pump without space in the log, and on the wire.
func TestPumpFull(t *testing.T) {
	small := usual
	small.Sectors = 5
	w := fresh(t, small)
	step(t, w, submit(1, restock(9)), fine(1, 0))
	for i := range 3 {
		step(t, w, submit(1, place(1)), fine(i+2, 0))
	}
	step(t, w, pump(1), full(api.ErrFull, 2))
	if w.Wire().Len() != 2 || len(w.Sent()) != 2 {
		t.Error("P32.1: pump without space in the log")
	}
	w = fresh(t, usual)
	step(t, w, submit(1, restock(9)), fine(1, 0))
	for i := range 3 {
		step(t, w, submit(1, place(1)), fine(i+2, 0))
	}
	for range 127 {
		step(t, w, ask(0, 2), fine(1, 0))
	}
	step(t, w, pump(1), fine(3, 0))
	if w.Wire().Len() != 128 || len(w.Sent()) != 3 {
		t.Error("P32.1: pump without space on the wire", w.Wire().Len(), len(w.Sent()))
	}
	w = fresh(t, usual)
	step(t, w, submit(1, restock(9)), fine(1, 0))
	step(t, w, submit(1, place(1)), fine(2, 0))
	step(t, w, arm(1, 40), fine(0, 0))
	step(t, w, pump(1), failed(api.ErrDown))
	if w.Up(1) || w.Wire().Len() != 0 || len(w.Sent()) != 0 {
		t.Error("P32.1: pump with a disk that dies")
	}
}

// P32.1: tick.
func TestTick(t *testing.T) {
	w := fresh(t, usual)
	step(t, w, tick(1), fine(1, 0))
	step(t, w, tick(1000), fine(1001, 0))
	unchanged(t, w, tick(0), api.ErrRange)
	unchanged(t, w, tick(1001), api.ErrRange)
	unchanged(t, w, tick(math.MaxInt32), api.ErrRange)
	if w.Now() != 1001 {
		t.Error("P32.1: Now", w.Now())
	}
}

// P32.1: the end of time.
func TestTickEnd(t *testing.T) {
	w := fresh(t, api.Config{Replicas: 1, Sectors: 1, Most: 1, Base: 1, Cap: 1})
	for w.Now()+1000 <= api.MaxTime {
		w.Step(tick(1000))
	}
	left := api.MaxTime - w.Now()
	unchanged(t, w, tick(left+1), api.ErrRange)
	step(t, w, tick(left), fine(api.MaxTime, 0))
	unchanged(t, w, tick(1), api.ErrRange)
}

// P32.1: deliver: asks and pushes; the example.
func TestDeliver(t *testing.T) {
	w := fresh(t, usual)
	unchanged(t, w, deliver(0), api.ErrNone)
	step(t, w, submit(0, restock(9)), fine(1, 0))
	step(t, w, commit(1), fine(1, 0))
	step(t, w, submit(0, place(9)), fine(2, 0))
	step(t, w, ask(1, 0), fine(1, 0))
	unchanged(t, w, deliver(1), api.ErrNone)
	push, ok := peer.Answer(w.State(0), messages(t, w)[0])
	step(t, w, deliver(0), fine(1, 0))
	if !ok || len(w.Stored(0).Logs().Committed()) != 1 {
		t.Error("P32.1: an ask is answered without a sync")
	}
	onWire(t, w, push)
	step(t, w, copy1(0), fine(0, 0))
	step(t, w, deliver(0), fine(3, 0))
	if l := w.State(1).Logs(); !slices.Equal(l.Committed(), w.State(0).Logs().Committed()) || !slices.Equal(l.Tentative(), w.State(0).Logs().Tentative()) {
		t.Error("P32.1: a push is not accepted")
	}
	if len(w.Stored(1).Logs().Committed()) != 0 {
		t.Error("P32.1: a push is synced")
	}
	step(t, w, deliver(0), fine(0, 0))
	unchanged(t, w, deliver(0), api.ErrNone)
}

// P32.1: deliver: requests and answers.
func TestDeliverRequest(t *testing.T) {
	w := fresh(t, usual)
	step(t, w, submit(1, restock(9)), fine(1, 0))
	step(t, w, submit(1, place(2)), fine(2, 0))
	step(t, w, pump(1), fine(1, 0))
	k := api.Key{Id: id(1, 2), Ord: 1}
	answer := msg.Msg{Kind: 4, From: 9, To: 1, Key: k}
	step(t, w, copy1(0), fine(0, 0))
	step(t, w, copy1(0), fine(0, 0))
	step(t, w, refuse(1), fine(0, 0))
	step(t, w, deliver(0), fine(0, 0))
	if len(w.Gate().Applied()) != 0 || w.Wire().Len() != 2 {
		t.Error("P32.1: a refused request")
	}
	step(t, w, deliver(0), fine(1, 0))
	step(t, w, deliver(0), fine(1, 0))
	onWire(t, w, answer, answer)
	if q := w.Gate().Applied(); len(q) != 1 || q[0] != (api.Request{Key: k, What: api.Effect{Kind: 1, A: 3, N: 2, Ref: id(1, 2)}}) {
		t.Error("P32.1: applied", q)
	}
	step(t, w, deliver(0), fine(1, 0))
	if c := w.State(1).Chains()[1]; !c.Stack[0].Acked || w.Stored(1).Chains()[1].Stack[0].Acked {
		t.Error("P32.1: an answer is not processed, or is synced", c)
	}
	step(t, w, deliver(0), fine(0, 0))
}

// P32.1: what is lost: messages to replicas that are down, and broken ones.
func TestDeliverLost(t *testing.T) {
	w := fresh(t, usual)
	step(t, w, submit(0, restock(9)), fine(1, 0))
	step(t, w, submit(0, place(1)), fine(2, 0))
	step(t, w, ask(1, 0), fine(1, 0))
	step(t, w, copy1(0), fine(0, 0))
	step(t, w, crash(0), fine(0, 0))
	step(t, w, deliver(1), fine(0, 0))
	step(t, w, restart(0), fine(0, 0))
	step(t, w, flip(0, 30), fine(0, 0))
	step(t, w, deliver(0), fine(0, 0))
	if w.Wire().Len() != 0 {
		t.Error("P32.1: lost messages are on the wire")
	}
	step(t, w, submit(0, restock(9)), fine(1, 0))
	step(t, w, submit(0, place(1)), fine(2, 0))
	step(t, w, pump(0), fine(1, 0))
	step(t, w, copy1(0), fine(0, 0))
	step(t, w, flip(0, 0), fine(0, 0))
	step(t, w, deliver(0), fine(0, 0))
	if len(w.Gate().Applied()) != 0 {
		t.Error("P32.1: a broken request is applied")
	}
	step(t, w, deliver(0), fine(1, 0))
	step(t, w, crash(0), fine(0, 0))
	step(t, w, deliver(0), fine(0, 0))
	if len(w.Gate().Applied()) != 1 || w.Wire().Len() != 0 {
		t.Error("P32.1: an answer to a replica that is down")
	}
}

// P32.1: an ask to a replica whose disk dies is not answered.
func TestDeliverDies(t *testing.T) {
	w := fresh(t, usual)
	step(t, w, submit(0, restock(9)), fine(1, 0))
	step(t, w, ask(1, 0), fine(1, 0))
	step(t, w, arm(0, 10), fine(0, 0))
	if a := w.Step(deliver(0)); a.N != 0 || w.Up(0) || w.Wire().Len() != 0 {
		t.Error("P32.1: an ask with a disk that dies", a)
	}
}

// P32.1: deliver without space on the wire or in the log.
func TestDeliverFull(t *testing.T) {
	w := fresh(t, usual)
	step(t, w, submit(1, restock(9)), fine(1, 0))
	step(t, w, submit(1, place(2)), fine(2, 0))
	step(t, w, pump(1), fine(1, 0))
	for w.Wire().Len() < 128 {
		step(t, w, copy1(0), fine(0, 0))
	}
	step(t, w, deliver(5), fine(1, 0))
	unchanged(t, w, copy1(0), api.ErrFull)
	small := api.Config{Replicas: 2, Sectors: 2, Most: 2, Base: 3, Cap: 10}
	w = fresh(t, small)
	step(t, w, submit(0, restock(9)), fine(1, 0))
	step(t, w, submit(0, restock(9)), fine(2, 0))
	step(t, w, submit(1, restock(9)), fine(1, 0))
	step(t, w, ask(1, 0), fine(1, 0))
	step(t, w, deliver(0), fine(1, 0))
	step(t, w, deliver(0), full(api.ErrFull, 1))
	if l := w.State(1).Logs().Tentative(); len(l) != 2 {
		t.Error("P32.1: a push without space", l)
	}
	small.Sectors, small.Replicas = 3, 1
	w = fresh(t, small)
	step(t, w, submit(0, restock(9)), fine(1, 0))
	step(t, w, submit(0, place(2)), fine(2, 0))
	step(t, w, pump(0), fine(1, 0))
	step(t, w, deliver(0), fine(1, 0))
	step(t, w, copy1(0), fine(0, 0))
	step(t, w, deliver(0), fine(1, 0))
	w = fresh(t, small)
	step(t, w, submit(0, restock(9)), fine(1, 0))
	step(t, w, submit(0, place(2)), fine(2, 0))
	step(t, w, pump(0), fine(1, 0))
	step(t, w, tick(3), fine(3, 0))
	step(t, w, pump(0), fine(1, 0))
	step(t, w, deliver(0), fine(1, 0))
	step(t, w, drop(0), fine(0, 0))
	step(t, w, deliver(0), failed(api.ErrFull))
	if w.State(0).Chains()[1].Stack[0].Acked {
		t.Error("P32.1: an answer without space")
	}
}

// P32.1: drop, copy and flip.
func TestWireSteps(t *testing.T) {
	w := fresh(t, usual)
	for _, x := range []api.Step{drop(0), copy1(0), flip(0, 0), drop(255), copy1(255), flip(255, 0)} {
		unchanged(t, w, x, api.ErrNone)
	}
	step(t, w, ask(1, 0), fine(1, 0))
	step(t, w, ask(2, 0), fine(1, 0))
	step(t, w, ask(2, 1), fine(1, 0))
	a, b, c := peer.Ask(w.State(1), 0), peer.Ask(w.State(2), 0), peer.Ask(w.State(2), 1)
	for _, x := range []api.Step{drop(3), copy1(3), flip(3, 0)} {
		unchanged(t, w, x, api.ErrNone)
	}
	step(t, w, drop(1), fine(0, 0))
	onWire(t, w, a, c)
	step(t, w, copy1(0), fine(0, 0))
	onWire(t, w, a, c, a)
	unchanged(t, w, flip(1, 19*8), api.ErrRange)
	unchanged(t, w, flip(1, math.MaxInt32), api.ErrRange)
	step(t, w, flip(1, 19*8-1), fine(0, 0))
	x := w.Wire()
	bytes1, _ := x.Take(1)
	want, _ := msg.Put(c)
	want[18] ^= 0x80
	if !w.Wire().Broken(1) || w.Wire().Broken(0) || !bytes.Equal(bytes1, want) {
		t.Error("P32.1: flip")
	}
	unchanged(t, w, flip(1, 0), api.ErrState)
	unchanged(t, w, flip(1, math.MaxInt32), api.ErrState)
	step(t, w, copy1(1), fine(0, 0))
	unchanged(t, w, flip(3, 5), api.ErrState)
	step(t, w, drop(0), fine(0, 0))
	step(t, w, drop(0), fine(0, 0))
	step(t, w, drop(1), fine(0, 0))
	onWire(t, w, a)
	_ = b
}

// P32.1: refuse.
func TestRefuse(t *testing.T) {
	w := fresh(t, usual)
	for _, n := range []int{0, 1, 255} {
		step(t, w, refuse(n), fine(0, 0))
		if w.Gate().Refusing() != n {
			t.Error("P32.1: refuse", n)
		}
	}
	unchanged(t, w, refuse(256), api.ErrRange)
	unchanged(t, w, refuse(math.MaxInt32), api.ErrRange)
}

// P32.1: arm, with N - 1 bytes; 0 disarms.
func TestArm(t *testing.T) {
	for n, alive := range map[int]bool{1: false, 2: false, 32: false, 33: true, 4096: true, 0: true} {
		w := fresh(t, usual)
		step(t, w, submit(1, restock(9)), fine(1, 0))
		step(t, w, arm(1, 1), fine(0, 0))
		step(t, w, arm(1, n), fine(0, 0))
		if e := w.Step(sync(1)).Code; e != map[bool]api.Errno{true: api.OK, false: api.ErrDown}[alive] || w.Up(1) != alive {
			t.Errorf("P32.1: arm %d: %d", n, e)
		}
		if found := len(w.Stored(1).Logs().Tentative()) == 1; found != (alive || n >= 31) {
			t.Errorf("P32.1: arm %d: stored %v", n, found)
		}
	}
	w := fresh(t, usual)
	unchanged(t, w, arm(1, 4097), api.ErrRange)
	step(t, w, crash(1), fine(0, 0))
	unchanged(t, w, arm(1, 4097), api.ErrRange)
	unchanged(t, w, arm(1, 0), api.ErrDown)
}

// P32.1: pack.
func TestPack(t *testing.T) {
	w := fresh(t, api.Config{Replicas: 1, Sectors: 4, Most: 2, Base: 3, Cap: 10})
	step(t, w, submit(0, restock(9)), fine(1, 0))
	step(t, w, submit(0, place(9)), fine(2, 0))
	step(t, w, commit(2), fine(2, 0))
	step(t, w, pump(0), fine(1, 0))
	before := w.State(0)
	unchanged(t, w, submit(0, restock(1)), api.ErrFull)
	step(t, w, pack(0), fine(0, 0))
	if !image.Same(w.State(0), before) || !image.Same(w.Stored(0), before) {
		t.Error("P32.1: pack changes the state, or is not stored")
	}
	step(t, w, arm(0, 1), fine(0, 0))
	step(t, w, pack(0), failed(api.ErrDown))
	if w.Up(0) {
		t.Error("P32.1: pack with a disk that dies")
	}
	w = fresh(t, api.Config{Replicas: 1, Sectors: 9, Most: 2, Base: 3, Cap: 10})
	step(t, w, submit(0, restock(9)), fine(1, 0))
	for i := range 5 {
		step(t, w, submit(0, place(1)), fine(i+2, 0))
	}
	step(t, w, pump(0), fine(5, 0))
	unchanged(t, w, pack(0), api.ErrFull)
}

// P32.1, G6: Frame is Step in bytes.
func TestFrame(t *testing.T) {
	w, v := fresh(t, usual), fresh(t, usual)
	l := []api.Step{submit(1, restock(9)), submit(1, place(20)), sync(1), ask(0, 1), deliver(0), deliver(0), tick(7), commit(9), crash(1), crash(1), api.Step{Kind: 2, R: 9}, refuse(256), arm(0, 9)}
	for _, x := range l {
		b, e := code.Put(x)
		if e != api.OK {
			t.Fatal("no step", x)
		}
		a, e := code.Told(w.Frame(b))
		if want := v.Step(x); e != api.OK || a != want {
			t.Errorf("P32.1: Frame of %v = %v; want %v", x, a, want)
		}
	}
	if digest(w) != digest(v) {
		t.Error("G6: Frame and Step lead to different worlds")
	}
	wrong := map[string]api.Errno{"": api.ErrSyntax, "x": api.ErrSyntax, string(make([]byte, 21)): api.ErrKind, string(make([]byte, 42)): api.ErrSyntax, "\x02\x00\x01" + string(make([]byte, 18)): api.ErrSyntax, "\x04\x00\x00\xff" + string(make([]byte, 17)): api.ErrRange}
	for b, e := range wrong {
		if got := w.Frame([]byte(b)); !bytes.Equal(got, []byte{byte(e), 0, 0, 0, 0, 0}) {
			t.Errorf("P32.1: Frame(%v) = %v; want %d", []byte(b), got, e)
		}
	}
	if got := w.Frame([]byte{9}); !bytes.Equal(got, []byte{16, 0, 0, 0, 0, 0}) {
		t.Error("P32.1: Frame of one byte", got)
	}
}

// P32.1, P1: a nil World, and one that New did not create.
func TestUnmade(t *testing.T) {
	x, _ := code.Put(sync(0))
	for _, w := range []*world.World{nil, new(world.World)} {
		for kind := -1; kind <= 16; kind++ {
			step(t, w, api.Step{Kind: kind}, failed(api.ErrState))
		}
		if got := w.Frame(x); !bytes.Equal(got, []byte{9, 0, 0, 0, 0, 0}) {
			t.Error("P32.1: Frame of an unmade world", got)
		}
		if got := w.Frame([]byte{1}); !bytes.Equal(got, []byte{16, 0, 0, 0, 0, 0}) {
			t.Error("P32.1: Frame of no step in an unmade world", got)
		}
		if w.Config() != (api.Config{}) || w.Now() != 0 || w.Up(0) || w.State(0) != nil || w.Stored(0) != nil || w.Wire() != nil || w.Gate() != nil || len(w.Sent()) != 0 || w.Submitted() != 0 {
			t.Error("P32.1: an unmade world does something")
		}
	}
}

// P2: what a world returns is a copy.
func TestMemory(t *testing.T) {
	w := fresh(t, usual)
	step(t, w, submit(1, restock(9)), fine(1, 0))
	step(t, w, submit(1, place(2)), fine(2, 0))
	step(t, w, pump(1), fine(1, 0))
	step(t, w, deliver(0), fine(1, 0))
	before := digest(w)
	w.State(1).Do(record.Commit(id(1, 1)))
	w.Stored(1).Do(record.Commit(id(1, 1)))
	w.Wire().Take(0)
	w.Wire().Put(1, []byte{1})
	w.Wire().Flip(0, 1)
	w.Gate().Refuse(9)
	w.Gate().Do(api.Request{})
	w.Sent()[0].Now = 99
	if digest(w) != before {
		t.Error("P2: a world hands out its memory")
	}
}

// P32.1, P32.2: the example.
func TestExample(t *testing.T) {
	w := fresh(t, api.Config{Replicas: 2, Sectors: 9, Most: 1, Base: 1, Cap: 1})
	for _, x := range []api.Step{submit(0, restock(5)), commit(1), sync(0), ask(1, 0), deliver(0), deliver(0)} {
		if a := w.Step(x); a.Code != api.OK {
			t.Errorf("P32.1: %v: %v", x, a)
		}
	}
	for r := range 2 {
		l := w.State(r).Logs()
		if !slices.Equal(l.Committed(), []api.Change{{Id: id(0, 1), Time: 1, Kind: 1, A: 3, N: 5}}) || !deal.Same(l.Base(), fold.Last(api.Book{}, l.Committed()...)) {
			t.Error("P32.2: replica", r, l.Committed())
		}
	}
}
