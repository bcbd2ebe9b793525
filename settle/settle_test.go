package settle_test

import (
	"fmt"
	"math"
	"slices"
	"testing"

	"countermand/api"
	"countermand/image"
	"countermand/model"
	"countermand/settle"
	"countermand/world"
)

func id(replica, seq int) api.Id { return api.Id{Replica: replica, Seq: seq} }

var usual = api.Config{Replicas: 3, Sectors: 64, Most: 4, Base: 3, Cap: 10}

func fresh(t *testing.T, c api.Config) *world.World {
	t.Helper()
	w, e := world.New(c)
	if e != api.OK {
		t.Fatal("no world", e)
	}
	return w
}

func after(t *testing.T, c api.Config, l ...api.Step) *world.World {
	t.Helper()
	w := fresh(t, c)
	for _, x := range l {
		w.Step(x)
	}
	return w
}

func submit(r int, c api.Change) api.Step { return api.Step{Kind: 1, R: r, C: c} }

func restock(n int64) api.Change { return api.Change{Kind: 1, A: 3, N: n} }

func place(n int64) api.Change { return api.Change{Kind: 3, A: 2, B: 3, N: n} }

// digest is all that a world tells, as text; the order on the wire does not count.
func digest(w *world.World) string {
	text := fmt.Sprint(w.Now(), w.Submitted(), w.Wire().Len(), w.Gate().Applied(), w.Gate().Refusing(), w.Sent())
	for r := range w.Config().Replicas {
		text += fmt.Sprint(w.Up(r), image.Put(w.State(r)), image.Put(w.Stored(r)))
	}
	return text
}

// byHand performs a round step by step and reports whether a step, other than a pack, had too little space.
func byHand(w *world.World) bool {
	full := false
	do := func(x api.Step) {
		a := w.Step(x)
		full = full || a.Code == api.ErrFull && x.Kind != 15
	}
	all := func() {
		for w.Wire().Len() > 0 {
			do(api.Step{Kind: 7})
		}
	}
	n := w.Config().Replicas
	all()
	for r := range n {
		do(api.Step{Kind: 15, R: r})
	}
	for r := 1; r < n; r++ {
		do(api.Step{Kind: 3, R: r, I: 0})
		do(api.Step{Kind: 3, R: 0, I: r})
	}
	all()
	do(api.Step{Kind: 4, N: 16})
	for r := 1; r < n; r++ {
		do(api.Step{Kind: 3, R: r, I: 0})
	}
	all()
	for r := range n {
		do(api.Step{Kind: 5, R: r})
	}
	all()
	do(api.Step{Kind: 6, N: w.Config().Cap})
	return full
}

// busy is a script that leaves messages on the wire and much to be done.
func busy() []api.Step {
	l := []api.Step{submit(0, restock(9)), submit(1, place(4)), {Kind: 3, R: 1, I: 0}, {Kind: 7}, {Kind: 3, R: 2, I: 1}, submit(2, restock(2)), submit(1, restock(7)), submit(1, place(3)), {Kind: 5, R: 1}, {Kind: 9}, {Kind: 6, N: 2}}
	for i := range 20 {
		l = append(l, submit(i%3, place(int64(1+i%2))))
	}
	return l
}

// P36.1: Deliver.
func TestDeliver(t *testing.T) {
	w, v := after(t, usual, busy()...), after(t, usual, busy()...)
	n := 0
	for v.Wire().Len() > 0 {
		v.Step(api.Step{Kind: 7})
		n++
	}
	if got := settle.Deliver(w); got != n || w.Wire().Len() != 0 || digest(w) != digest(v) {
		t.Errorf("P36.1: Deliver = %d; want %d", got, n)
	}
	if got := settle.Deliver(w); got != 0 {
		t.Error("P36.1: Deliver of nothing", got)
	}
	w = after(t, usual, submit(1, restock(9)), submit(1, place(1)), api.Step{Kind: 5, R: 1}, api.Step{Kind: 9})
	if got := settle.Deliver(w); got != 4 {
		t.Error("P36.1: Deliver of two requests and their answers", got)
	}
}

// P36.1: Round, with much and with little space, while replicas are down, and alone.
func TestRound(t *testing.T) {
	small, alone, down := usual, usual, append(busy(), api.Step{Kind: 12, R: 1})
	small.Sectors, alone.Replicas = 9, 1
	for i, c := range []struct {
		c api.Config
		l []api.Step
	}{{usual, nil}, {usual, busy()}, {usual, down}, {small, busy()}, {alone, busy()}, {usual, append(busy(), api.Step{Kind: 12, R: 0})}, {usual, append(busy(), api.Step{Kind: 11, N: 3})}} {
		w, v := after(t, c.c, c.l...), after(t, c.c, c.l...)
		fulls := 0
		for n := range 8 {
			got, want := settle.Round(w), byHand(v)
			if got != want || digest(w) != digest(v) {
				t.Fatalf("P36.1: world %d, round %d: %v; want %v", i, n, got, want)
			}
			if got {
				fulls++
			}
		}
		if (c.c == small) != (fulls > 0) {
			t.Errorf("P36.1: world %d had too little space in %d rounds", i, fulls)
		}
	}
}

// P36.1: a pack without space does not count; anything else does.
func TestRoundPack(t *testing.T) {
	w := after(t, api.Config{Replicas: 2, Sectors: 9, Most: 1, Base: 1, Cap: 1}, submit(1, restock(9)))
	for range 5 {
		w.Step(submit(1, place(1)))
	}
	w.Step(api.Step{Kind: 5, R: 1})
	for w.Wire().Len() > 0 {
		w.Step(api.Step{Kind: 8})
	}
	w.Step(api.Step{Kind: 12, R: 0})
	if a := w.Step(api.Step{Kind: 15, R: 1}); a.Code != api.ErrFull {
		t.Fatal("the pack has space", a)
	}
	if settle.Round(w) {
		t.Error("P36.1: a pack without space counts")
	}
	tiny := after(t, api.Config{Replicas: 1, Sectors: 1, Most: 1, Base: 1, Cap: 1}, submit(0, restock(9)))
	if !settle.Round(tiny) {
		t.Error("P36.1: a commit without space does not count")
	}
}

// P36.1: each condition of Quiet.
func TestQuiet(t *testing.T) {
	if !settle.Quiet(fresh(t, usual)) {
		t.Error("P36.1: a new world is not quiet")
	}
	done := []api.Step{submit(0, restock(9)), {Kind: 4, N: 1}, {Kind: 3, R: 1}, {Kind: 3, R: 2}, {Kind: 7}, {Kind: 7}, {Kind: 7}, {Kind: 7}}
	if w := after(t, usual, done...); !settle.Quiet(w) {
		t.Error("P36.1: a world with a change everywhere is not quiet")
	}
	loud := map[string][]api.Step{
		"a replica that is down":      append(slices.Clone(done), api.Step{Kind: 2, R: 2}, api.Step{Kind: 12, R: 2}),
		"the primary that is down":    append(slices.Clone(done), api.Step{Kind: 12}),
		"a message":                   append(slices.Clone(done), api.Step{Kind: 3, R: 1}),
		"a message to one that asks":  {{Kind: 3, R: 1, I: 2}},
		"a tentative change":          append(slices.Clone(done), submit(1, restock(1))),
		"a commit that is not spread": append(slices.Clone(done), submit(0, restock(1)), api.Step{Kind: 4, N: 1}),
		"a request to be sent":        append(slices.Clone(done), submit(0, place(1)), api.Step{Kind: 4, N: 1}, api.Step{Kind: 3, R: 1}, api.Step{Kind: 3, R: 2}, api.Step{Kind: 7}, api.Step{Kind: 7}, api.Step{Kind: 7}, api.Step{Kind: 7}),
		"fewer commits at the end":    done[:7],
	}
	for name, l := range loud {
		w := after(t, usual, l...)
		before := digest(w)
		if settle.Quiet(w) {
			t.Errorf("P36.1: a world with %s is quiet", name)
		}
		if digest(w) != before {
			t.Error("P36.1: Quiet changes the world")
		}
	}
}

// P36.1: Fair counts rounds, at most so many, and ends failures first.
func TestFair(t *testing.T) {
	if n, full := settle.Fair(fresh(t, usual), 50); n != 0 || full {
		t.Error("P36.1: the example", n, full)
	}
	hard := append(busy(), api.Step{Kind: 11, N: 200}, api.Step{Kind: 14, R: 0, N: 1}, api.Step{Kind: 12, R: 1}, api.Step{Kind: 14, R: 2, N: 7})
	for _, most := range []int{math.MinInt, -1, 0, 1, 2, 3, 100, 101, math.MaxInt} {
		w, v := after(t, usual, hard...), after(t, usual, hard...)
		n, full := settle.Fair(w, most)
		v.Step(api.Step{Kind: 11})
		for r := range 3 {
			v.Step(api.Step{Kind: 14, R: r})
		}
		for r := range 3 {
			v.Step(api.Step{Kind: 13, R: r})
		}
		want, wantFull := 0, false
		for want < min(most, 100) && !settle.Quiet(v) {
			wantFull = byHand(v) || wantFull
			want++
		}
		if n != want || full != wantFull || digest(w) != digest(v) {
			t.Errorf("P36.1: Fair(%d) = %d, %v; want %d, %v", most, n, full, want, wantFull)
		}
	}
	stuck := after(t, api.Config{Replicas: 2, Sectors: 1, Most: 1, Base: 1, Cap: 1}, submit(1, restock(1)), submit(0, restock(1)))
	if n, full := settle.Fair(stuck, 1000); n != 100 || !full {
		t.Error("P36.1: Fair of a world without space", n, full)
	}
}

// P36.1: Fair with too little space in the first round only.
func TestFairFull(t *testing.T) {
	c := api.Config{Replicas: 1, Sectors: 2, Most: 3, Base: 1, Cap: 1}
	w := after(t, c, submit(0, restock(1)), submit(0, restock(1)))
	v := after(t, c, submit(0, restock(1)), submit(0, restock(1)))
	first := byHand(v)
	n, full := settle.Fair(w, 3)
	if n < 1 || first && !full {
		t.Error("P36.1: Fair forgets a round", n, full)
	}
}

// P36.1: Dead, replica by replica.
func TestDead(t *testing.T) {
	c := usual
	c.Most = 1
	w := fresh(t, c)
	for r := range 3 {
		w.Step(submit(r, restock(9)))
		w.Step(submit(r, place(1)))
		w.Step(submit(r, place(2)))
		w.Step(api.Step{Kind: 5, R: r})
	}
	if got := settle.Dead(w); len(got) != 0 {
		t.Error("P36.1: Dead too early", got)
	}
	w.Step(api.Step{Kind: 6, N: 3})
	var want []api.Key
	for r := range 3 {
		want = append(want, api.Key{Id: id(r, 2), Ord: 1}, api.Key{Id: id(r, 3), Ord: 1})
	}
	if got := settle.Dead(w); !slices.Equal(got, want) {
		t.Errorf("P36.1: Dead = %v; want %v", got, want)
	}
	w.Step(api.Step{Kind: 12, R: 1})
	if got := settle.Dead(w); !slices.Equal(got, want) {
		t.Errorf("P36.1: Dead with a replica that is down = %v; want %v", got, want)
	}
}

// P36.1, P1: a nil World, and one that New did not create.
func TestUnmade(t *testing.T) {
	for _, w := range []*world.World{nil, new(world.World)} {
		if settle.Deliver(w) != 0 || settle.Round(w) || settle.Quiet(w) || len(settle.Dead(w)) != 0 {
			t.Error("P36.1: an unmade world does something")
		}
		if n, full := settle.Fair(w, 5); n != 0 || full {
			t.Error("P36.1: Fair of an unmade world", n, full)
		}
	}
}

// dice yields numbers that depend on the seed only.
type dice struct{ seed uint64 }

func (d *dice) below(n int) int {
	d.seed = d.seed*6364136223846793005 + 1442695040888963407
	return int(d.seed>>33) % n
}

func (d *dice) step(c api.Config, wire int) api.Step {
	r, i := d.below(c.Replicas), d.below(max(1, wire))
	switch k := d.below(100); {
	case k < 16:
		kind := []int{1, 2, 3, 3, 3, 4, 5, 6, 7, 8, 9}[d.below(11)]
		x := api.Change{Kind: kind, A: d.below(3), B: d.below(2), N: int64(1 + d.below(6)), Ref: id(d.below(c.Replicas), 1+d.below(8))}
		if kind == 2 {
			x.N = 40
		} else if kind == 3 {
			x.Ref = id(d.below(2), d.below(2))
		}
		return submit(r, x)
	case k < 28:
		return api.Step{Kind: 3, R: r, I: []int{0, d.below(c.Replicas)}[d.below(2)]}
	case k < 33:
		return api.Step{Kind: 4, N: 1 + d.below(4)}
	case k < 43:
		return api.Step{Kind: 5, R: r}
	case k < 50:
		return api.Step{Kind: 6, N: 1 + d.below(6)}
	case k < 78:
		return api.Step{Kind: 7, I: i}
	case k < 84:
		return api.Step{Kind: 8 + d.below(2), I: i}
	case k < 87:
		return api.Step{Kind: 10, I: i, N: d.below(200)}
	case k < 88:
		return api.Step{Kind: 11, N: d.below(4)}
	case k < 95:
		return api.Step{Kind: 12 + d.below(2), R: r}
	case k < 98:
		return api.Step{Kind: 14, R: r, N: d.below(150)}
	}
	return api.Step{Kind: 15, R: r}
}

// stored returns all changes that are stored anywhere.
func stored(w *world.World) []api.Change {
	var l []api.Change
	for r := range w.Config().Replicas {
		x := w.Stored(r).Logs()
		l = append(append(l, x.Committed()...), x.Tentative()...)
	}
	return l
}

// P36.2, G2: after any script, a world comes to rest, and what is wanted is in place.
func TestConvergence(t *testing.T) {
	quiet := 0
	for seed := range 150 {
		d := &dice{seed: uint64(seed) * 7919}
		c := api.Config{Replicas: 1 + d.below(4), Sectors: []int{64, 64, 40}[d.below(3)], Most: 2 + d.below(7), Base: 1 + d.below(4), Cap: 1 + d.below(9)}
		w := fresh(t, c)
		for range 150 {
			w.Step(d.step(c, w.Wire().Len()))
		}
		known := stored(w)
		n, full := settle.Fair(w, 40)
		dead := settle.Dead(w)
		if full || len(dead) > 0 {
			continue
		}
		quiet++
		if !settle.Quiet(w) {
			t.Fatalf("P36.2: seed %d: not quiet after %d rounds", seed, n)
		}
		order := w.State(0).Logs().Committed()
		if !model.Matches(w.Gate().Applied(), order) || !model.Allowed(w.Gate().Applied(), order) {
			t.Fatalf("G2: seed %d: in place: %v; want %v", seed, model.Net(w.Gate().Applied()), model.Expect(order...))
		}
		for _, x := range known {
			same := func(y api.Change) bool { return x == y }
			if i := slices.IndexFunc(order, same); i < 0 || slices.ContainsFunc(order[i+1:], func(y api.Change) bool { return x.Id == y.Id }) {
				t.Fatalf("G2: seed %d: %v is not committed exactly once", seed, x)
			}
		}
	}
	if quiet < 50 {
		t.Errorf("P36.2: only %d worlds had enough space and no dead request", quiet)
	}
}
