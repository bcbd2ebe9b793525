package world_test

import (
	"slices"
	"testing"

	"countermand/api"
	"countermand/gate"
	"countermand/world"
)

// run performs steps that must all succeed.
func run(t *testing.T, w *world.World, l ...api.Step) {
	t.Helper()
	for _, x := range l {
		if a := w.Step(x); a.Code != api.OK {
			t.Fatalf("Step(%v) = %v", x, a)
		}
	}
}

// learn makes replica 1 learn what replica 0 knows.
func learn() []api.Step { return []api.Step{ask(1, 0), deliver(0), deliver(0)} }

func keys(g *gate.Gate) []api.Key {
	var l []api.Key
	for _, q := range g.Applied() {
		l = append(l, q.Key)
	}
	return l
}

func key(seq, ord int, undo bool) api.Key { return api.Key{Id: id(1, seq), Ord: ord, Undo: undo} }

// stocked returns a world in which both replicas have committed a restock.
func stocked(t *testing.T, c api.Config) *world.World {
	t.Helper()
	w := fresh(t, c)
	run(t, w, submit(0, restock(5)), commit(1))
	run(t, w, learn()...)
	return w
}

// Example 1 of the whole: a commit spreads.
func TestExample1(t *testing.T) {
	w := fresh(t, usual)
	run(t, w, submit(0, restock(5)), commit(1))
	if len(w.State(0).Logs().Committed()) != 1 || len(w.State(1).Logs().Committed()) != 0 {
		t.Error("the primary has not committed, or another one has")
	}
	run(t, w, learn()...)
	if len(w.State(1).Logs().Committed()) != 1 {
		t.Error("replica 1 has not committed")
	}
}

// Example 2 of the whole: a mail waits for the commit.
func TestExample2(t *testing.T) {
	w := stocked(t, usual)
	run(t, w, submit(1, place(2)), pump(1), deliver(0), deliver(0))
	if !slices.Equal(keys(w.Gate()), []api.Key{key(1, 1, false)}) {
		t.Error("the reserve is not applied at once", keys(w.Gate()))
	}
	step(t, w, pump(1), fine(0, 0))
	run(t, w, ask(0, 1), deliver(0), deliver(0), commit(1))
	step(t, w, pump(1), fine(0, 0))
	run(t, w, learn()...)
	run(t, w, pump(1), deliver(0), deliver(0))
	if !slices.Equal(keys(w.Gate()), []api.Key{key(1, 1, false), key(1, 2, false)}) || w.Gate().Applied()[1].What.Kind != 7 {
		t.Error("the mail is not applied after the commit", w.Gate().Applied())
	}
}

// Examples 3 and 4 of the whole: what is gone is sent until it is answered, and then undone; a lost answer costs nothing.
func TestExample3(t *testing.T) {
	w := stocked(t, usual)
	run(t, w, submit(1, place(4)), pump(1), deliver(0), crash(1), deliver(0), restart(1))
	run(t, w, submit(0, place(3)), commit(1))
	run(t, w, learn()...)
	if e := w.State(1).Chains()[0].Stack; len(e) != 1 || !e[0].Gone || e[0].Acked {
		t.Fatal("the reserve is not gone", e)
	}
	step(t, w, pump(1), fine(0, 0))
	run(t, w, tick(3), pump(1), deliver(0))
	if len(w.Gate().Applied()) != 1 {
		t.Error("a request that is sent again is applied again")
	}
	run(t, w, deliver(0), pump(1), deliver(0), deliver(0))
	if !slices.Equal(keys(w.Gate()), []api.Key{key(1, 1, false), key(1, 1, true)}) || len(w.Gate().Net()) != 0 {
		t.Error("the reserve is not undone", keys(w.Gate()))
	}
	if len(w.State(1).Chains()[0].Stack) != 0 {
		t.Error("the chain is not empty")
	}
}

// Example 5 of the whole: with Most 1, a lost answer makes a request dead.
func TestExample5(t *testing.T) {
	once := usual
	once.Most = 1
	w := stocked(t, once)
	run(t, w, submit(1, place(4)), pump(1), deliver(0), drop(0), tick(3))
	step(t, w, pump(1), fine(0, 0))
	if got := w.State(1).Dead(once, w.Now()); !slices.Equal(got, []api.Key{key(1, 1, false)}) {
		t.Error("the request is not dead", got)
	}
}

// Examples 6 and 7 of the whole: what a crash loses.
func TestExample6(t *testing.T) {
	w := fresh(t, usual)
	run(t, w, submit(1, restock(1)), crash(1), restart(1))
	step(t, w, submit(1, restock(2)), fine(1, 0))
	run(t, w, sync(1), crash(1), restart(1))
	step(t, w, submit(1, restock(3)), fine(2, 0))
	run(t, w, arm(1, 6))
	step(t, w, sync(1), failed(api.ErrDown))
	run(t, w, restart(1))
	if l := w.State(1).Logs().Tentative(); len(l) != 1 || l[0].N != 2 {
		t.Error("after a restart:", l)
	}
}

// Example 8 of the whole: a broken message is delivered and lost.
func TestExample8(t *testing.T) {
	for bit := range 8 * 19 {
		w := fresh(t, usual)
		run(t, w, ask(1, 0), flip(0, bit))
		step(t, w, deliver(0), fine(0, 0))
		if w.Wire().Len() != 0 {
			t.Fatal("a broken message is answered", bit)
		}
	}
}
