package world_test

import (
	"bytes"
	"slices"
	"testing"

	"countermand/api"
	"countermand/code"
	"countermand/deal"
	"countermand/delay"
	"countermand/effect"
	"countermand/fold"
	"countermand/ident"
	"countermand/image"
	"countermand/state"
	"countermand/vector"
	"countermand/world"
)

// dice yields numbers that depend on the seed only.
type dice struct{ seed uint64 }

func (d *dice) below(n int) int {
	d.seed = d.seed*6364136223846793005 + 1442695040888963407
	return int(d.seed>>33) % n
}

func (d *dice) config() api.Config {
	return api.Config{Replicas: 1 + d.below(4), Sectors: []int{64, 30, 12}[d.below(3)], Most: 1 + d.below(4), Base: 1 + d.below(4), Cap: 1 + d.below(9)}
}

func (d *dice) change(r int) api.Change {
	kind := []int{1, 1, 2, 3, 3, 3, 3, 4, 5, 6, 6, 7, 8, 9}[d.below(14)]
	c := api.Change{Kind: kind, A: d.below(3), B: d.below(2), N: int64(1 + d.below(6)), Ref: id(d.below(r), 1+d.below(8))}
	switch kind {
	case 1, 9:
		c.A = d.below(2)
	case 2:
		c.N = 40
	case 3:
		c.Ref = id(d.below(2), d.below(2))
	}
	return c
}

// step returns a random step; messages get through more often than not.
func (d *dice) step(c api.Config, wire int) api.Step {
	r, i := d.below(c.Replicas), d.below(max(1, wire))
	switch k := d.below(100); {
	case k < 14:
		return submit(r, d.change(c.Replicas))
	case k < 18:
		return sync(r)
	case k < 30:
		return ask(r, []int{0, d.below(c.Replicas)}[d.below(2)])
	case k < 35:
		return commit(1 + d.below(4))
	case k < 45:
		return pump(r)
	case k < 52:
		return tick(1 + d.below(6))
	case k < 80:
		return deliver(i)
	case k < 83:
		return drop(i)
	case k < 86:
		return copy1(i)
	case k < 88:
		return flip(i, d.below(200))
	case k < 89:
		return refuse(d.below(4))
	case k < 91:
		return crash(r)
	case k < 96:
		return restart(r)
	case k < 98:
		return arm(r, d.below(120))
	}
	return pack(r)
}

// safe checks what holds at every step.
func safe(t *testing.T, w *world.World) {
	t.Helper()
	order := w.State(0).Logs().Committed()
	_, outcomes := fold.Run(api.Book{}, order...)
	for r := range w.Config().Replicas {
		oneOrder(t, w.State(r), order)
		crashSafe(t, w, r)
	}
	applied := w.Gate().Applied()
	once(t, applied)
	for _, q := range applied {
		if effect.Later(q.What) && !wanted(order, outcomes, q) {
			t.Errorf("G1: %v is applied, but not wanted for good", q)
		}
	}
	for _, q := range w.Gate().Net() {
		accounted(t, w.State(q.Key.Id.Replica), q)
	}
	tries(t, w)
}

// oneOrder checks G3 and P32.2 for the state of one replica.
func oneOrder(t *testing.T, s *state.State, order []api.Change) {
	t.Helper()
	l := s.Logs()
	done, tent := l.Committed(), l.Tentative()
	if len(done) > len(order) || !slices.Equal(done, order[:len(done)]) {
		t.Errorf("G3: replica %d has committed %v; the primary %v", s.Replica(), done, order)
	}
	base := fold.Last(api.Book{}, done...)
	if !deal.Same(l.Base(), base) || !deal.Same(l.Seen(), fold.Last(base, tent...)) {
		t.Errorf("G3: replica %d has another booking", s.Replica())
	}
	for i := 1; i < len(tent); i++ {
		if a, b := tent[i-1], tent[i]; a.Time > b.Time || a.Time == b.Time && a.Id.Replica >= b.Id.Replica {
			t.Errorf("G3: replica %d: %v before %v", s.Replica(), a, b)
		}
	}
}

// crashSafe checks G4: what is stored contains all requests that were sent.
func crashSafe(t *testing.T, w *world.World, r int) {
	t.Helper()
	chains := w.Stored(r).Chains()
	for _, s := range w.Sent() {
		if s.Replica != r {
			continue
		}
		if s.Key.Id.Replica != r || s.Key.Id.Seq > len(chains) || chains[s.Key.Id.Seq-1].Made < s.Key.Ord {
			t.Errorf("G4: replica %d does not know that it sent %v", r, s)
		}
	}
}

func once(t *testing.T, applied []api.Request) {
	t.Helper()
	stacks := map[api.Id][]api.Key{}
	for i, q := range applied {
		if slices.ContainsFunc(applied[:i], func(p api.Request) bool { return p.Key == q.Key }) {
			t.Errorf("G1: %v is applied twice", q)
		}
		stack := stacks[q.Key.Id]
		if !q.Key.Undo {
			stacks[q.Key.Id] = append(stack, q.Key)
		} else if n := len(stack); n == 0 || stack[n-1] != ident.Other(q.Key) {
			t.Errorf("G1: %v is undone, but is not the last one of %v", q, stack)
		} else {
			stacks[q.Key.Id] = stack[:n-1]
		}
	}
}

func wanted(order []api.Change, outcomes []api.Outcome, q api.Request) bool {
	for i, c := range order {
		if c.Id == q.Key.Id {
			return slices.Contains(effect.Want(outcomes[i], true), q.What)
		}
	}
	return false
}

// accounted checks G1 for a request that was applied and not undone, with the state of its creator.
func accounted(t *testing.T, s *state.State, q api.Request) {
	t.Helper()
	o, final, known := s.Logs().Outcome(q.Key.Id)
	if !known {
		t.Errorf("G1: %v belongs to a change that its creator does not know", q)
		return
	}
	if !final || slices.Contains(effect.Want(o, true), q.What) {
		return
	}
	for _, e := range s.Chains()[q.Key.Id.Seq-1].Stack {
		if e.Ord == q.Key.Ord && e.Gone {
			return
		}
	}
	t.Errorf("G1: %v is not wanted, and not to be undone", q)
}

// tries checks G5.
func tries(t *testing.T, w *world.World) {
	t.Helper()
	c := w.Config()
	times := map[api.Key][]int{}
	for _, s := range w.Sent() {
		l := times[s.Key]
		if n := len(l); n >= c.Most || n > 0 && s.Now < delay.Due(c.Base, c.Cap, n, l[n-1]) {
			t.Errorf("G5: %v is sent at %d after %v", s.Key, s.Now, l)
		}
		times[s.Key] = append(l, s.Now)
	}
	for r := range c.Replicas {
		s := w.State(r)
		for _, k := range s.Dead(c, w.Now()) {
			stack := s.Chains()[k.Id.Seq-1].Stack
			e := stack[len(stack)-1]
			if k.Undo && e.Back < c.Most || !k.Undo && e.Sent < c.Most {
				t.Errorf("G5: %v is dead after fewer than %d tries", k, c.Most)
			}
		}
	}
}

// grows checks G4: a restart loses nothing that was stored before.
func grows(t *testing.T, before, after *state.State) {
	t.Helper()
	x, y := before.Logs(), after.Logs()
	done := y.Committed()
	if !vector.Covers(y.Known(), x.Known()) || len(done) < len(x.Committed()) || !slices.Equal(done[:len(x.Committed())], x.Committed()) {
		t.Errorf("G4: replica %d loses what was stored", before.Replica())
	}
	for i, c := range before.Chains() {
		if after.Chains()[i].Made < c.Made {
			t.Errorf("G4: replica %d loses a stored request", before.Replica())
		}
	}
}

// G1, G3, G4, G5, G6, P32.2: random scripts; each step also goes through bytes in a second world.
func TestRandomScripts(t *testing.T) {
	for seed := range 60 {
		d := &dice{seed: uint64(seed) * 977}
		c := d.config()
		w, v := fresh(t, c), fresh(t, c)
		for range 180 {
			x := d.step(c, w.Wire().Len())
			stored := w.Stored(x.R)
			a := w.Step(x)
			sameInBytes(t, v, x, a)
			if a.Code == api.OK && (x.Kind == 12 || x.Kind == 13) {
				if !image.Same(w.Stored(x.R), stored) || !image.Same(w.State(x.R), stored) {
					t.Errorf("G4: seed %d: a crash or restart alters what is stored", seed)
				}
			}
			grows(t, stored, w.Stored(x.R))
			safe(t, w)
			if t.Failed() {
				t.Fatalf("seed %d, config %v: after %v", seed, c, x)
			}
		}
		if digest(w) != digest(v) {
			t.Fatalf("G6: seed %d: steps in bytes lead to another world", seed)
		}
	}
}

func sameInBytes(t *testing.T, v *world.World, x api.Step, want api.Answer) {
	t.Helper()
	b, e := code.Put(x)
	if e != api.OK {
		t.Fatal("G6: no encoding of", x)
	}
	tells, e := code.Tell(want)
	if e != api.OK || !bytes.Equal(v.Frame(b), tells) {
		t.Errorf("G6: %v in bytes is not answered with %v", x, want)
	}
}
