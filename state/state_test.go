package state_test

import (
	"fmt"
	"math"
	"slices"
	"testing"

	"countermand/api"
	"countermand/chain"
	"countermand/deal"
	"countermand/effect"
	"countermand/entry"
	"countermand/logs"
	"countermand/record"
	"countermand/state"
)

var config = api.Config{Replicas: 4, Sectors: 9, Most: 2, Base: 3, Cap: 10}

func id(replica, seq int) api.Id { return api.Id{Replica: replica, Seq: seq} }

func change(replica, seq, time, kind, a, b int, n int64, ref api.Id) api.Change {
	return api.Change{Id: id(replica, seq), Time: time, Kind: kind, A: a, B: b, N: n, Ref: ref}
}

var (
	restock = change(0, 1, 1, 1, 3, 0, 10, api.Id{})
	place   = change(1, 1, 5, 3, 2, 3, 8, api.Id{})
	early   = change(2, 1, 3, 3, 4, 3, 6, api.Id{})
	cancel  = change(1, 2, 7, 5, 0, 0, 0, id(1, 1))
	deposit = change(1, 3, 9, 2, 2, 0, 100, api.Id{})
)

func must(t *testing.T, s *state.State, l ...record.Record) {
	t.Helper()
	for _, r := range l {
		if e := s.Do(r); e != api.OK {
			t.Fatalf("P24.1: Do(%v) = %d", r, e)
		}
	}
}

// digestOf is all that a state tells.
func digestOf(s *state.State) string {
	l := s.Logs()
	text := fmt.Sprintf("%d %v %v %v %v %v %v %v", s.Replica(), l.Committed(), l.Tentative(), l.Base(), l.Seen(), s.Chains(), s.Wants(), s.Quiet())
	for _, now := range []int{0, 5, 9, 13, 50} {
		text += fmt.Sprint(s.Ready(config, now), s.Dead(config, now))
	}
	return text
}

// P24.1: a new state.
func TestNew(t *testing.T) {
	for r, want := range map[int]int{0: 0, 1: 1, 3: 3, 4: 3, math.MaxInt: 3, -1: 0, math.MinInt: 0} {
		s := state.New(r)
		if s.Replica() != want || len(s.Chains()) != 0 || len(s.Wants()) != 0 || len(s.Ready(config, 0)) != 0 || len(s.Dead(config, 0)) != 0 || !s.Quiet() || len(s.Logs().Committed()) != 0 || len(s.Logs().Tentative()) != 0 {
			t.Errorf("P24.1: New(%d) is not empty", r)
		}
		c, e := s.Make(restock)
		if e != api.OK || c.Id != id(want, 1) {
			t.Errorf("P24.1: Make in New(%d) = %v, %d", r, c, e)
		}
	}
}

// P24.1: the wanted effects follow the visible outcomes, and are final after the commit.
func TestWants(t *testing.T) {
	s := state.New(1)
	l := logs.New()
	do := func(r record.Record) {
		t.Helper()
		must(t, s, r)
		if r.Kind == 1 {
			l.Add(r.C)
		} else {
			l.Commit(r.Id)
		}
		wants, chains := s.Wants(), s.Chains()
		if n := l.Known()[1]; len(wants) != n || len(chains) != n {
			t.Fatalf("P24.1: %d own changes, %d wants, %d chains", n, len(wants), len(chains))
		}
		for i, w := range wants {
			o, final, _ := l.Outcome(id(1, i+1))
			if !slices.Equal(w, effect.Want(o, final)) || chains[i].Id != id(1, i+1) {
				t.Errorf("P24.1: after %v: wants of %d = %v", r, i+1, w)
			}
		}
		if !slices.Equal(s.Logs().Committed(), l.Committed()) || !slices.Equal(s.Logs().Tentative(), l.Tentative()) || !deal.Same(s.Logs().Seen(), l.Seen()) {
			t.Errorf("P24.1: after %v: other logs", r)
		}
	}
	do(record.Change(restock))
	do(record.Change(place))
	if w := s.Wants(); len(w[0]) != 1 || w[0][0].Kind != 1 {
		t.Error("P24.1: wants of a tentative place", w)
	}
	do(record.Change(early))
	if w := s.Wants(); len(w[0]) != 0 {
		t.Error("P24.1: wants of a place that fails", w)
	}
	do(record.Change(cancel))
	do(record.Change(deposit))
	if w := s.Wants(); len(w[2]) != 0 {
		t.Error("P24.1: wants of a tentative deposit", w)
	}
	do(record.Commit(restock.Id))
	do(record.Commit(place.Id))
	if w := s.Wants(); len(w[0]) != 2 || w[0][1].Kind != 7 {
		t.Error("P24.1: wants of a committed place", w)
	}
	do(record.Commit(cancel.Id))
	do(record.Commit(deposit.Id))
	if w := s.Wants(); len(w[2]) != 1 || w[2][0].Kind != 8 {
		t.Error("P24.1: wants of a committed deposit", w)
	}
	do(record.Commit(early.Id))
}

// P24.1: requests and answers; what is not wanted any more is undone.
func TestRequests(t *testing.T) {
	s := state.New(1)
	must(t, s, record.Change(restock), record.Change(place))
	k := api.Key{Id: place.Id, Ord: 1}
	if q := s.Ready(config, 0); len(q) != 1 || q[0].Key != k || q[0].What != (api.Effect{Kind: 1, A: 3, N: 8, Ref: place.Id}) {
		t.Fatal("P24.1: Ready", q)
	}
	must(t, s, record.Try(k, 4))
	if c := s.Chains()[0]; c.Made != 1 || len(c.Stack) != 1 || c.Stack[0].Last != 4 || c.Stack[0].Sent != 1 {
		t.Error("P24.1: Chains after a try", c)
	}
	if len(s.Ready(config, 6)) != 0 || len(s.Ready(config, 7)) != 1 {
		t.Error("P24.1: Ready after a try")
	}
	must(t, s, record.Try(k, 9))
	if d := s.Dead(config, 14); len(d) != 0 {
		t.Error("P24.1: Dead too early", d)
	}
	if d := s.Dead(config, 15); !slices.Equal(d, []api.Key{k}) {
		t.Error("P24.1: Dead", d)
	}
	must(t, s, record.Ack(k), record.Change(early))
	back := api.Key{Id: place.Id, Ord: 1, Undo: true}
	if q := s.Ready(config, 0); len(q) != 1 || q[0].Key != back {
		t.Error("P24.1: Ready with an undoing", q)
	}
	must(t, s, record.Try(back, 20), record.Ack(back))
	if c := s.Chains()[0]; c.Made != 1 || len(c.Stack) != 0 {
		t.Error("P24.1: Chains after an undoing", c)
	}
}

// P24.1: the errors of Do, in order, without effect.
func TestErrors(t *testing.T) {
	s := state.New(1)
	must(t, s, record.Change(restock), record.Change(place), record.Change(cancel))
	k := api.Key{Id: place.Id, Ord: 1}
	before := digestOf(s)
	wrong := place
	wrong.Kind = 256
	cases := []struct {
		r    record.Record
		want api.Errno
	}{
		{record.Record{}, api.ErrKind}, {record.Record{Kind: 5, C: place}, api.ErrKind}, {record.Change(api.Change{}), api.ErrRange}, {record.Change(wrong), api.ErrRange}, {record.Commit(id(9, 9)), api.ErrRange}, {record.Try(k, -1), api.ErrRange},
		{record.Record{Kind: 2, Id: place.Id, Now: 1}, api.ErrSyntax}, {record.Record{Kind: 1, C: early, Now: 1}, api.ErrSyntax}, {record.Record{Kind: 4, Key: k, Now: 1}, api.ErrSyntax},
		{record.Change(place), api.ErrState}, {record.Change(change(2, 2, 9, 1, 0, 0, 1, api.Id{})), api.ErrState},
		{record.Commit(early.Id), api.ErrNone}, {record.Commit(cancel.Id), api.ErrState},
		{record.Try(api.Key{Id: place.Id, Ord: 2}, 1), api.ErrNone}, {record.Try(api.Key{Id: place.Id, Ord: 1, Undo: true}, 1), api.ErrNone}, {record.Try(api.Key{Id: restock.Id, Ord: 1}, 1), api.ErrNone}, {record.Ack(k), api.ErrNone}, {record.Ack(api.Key{Id: id(1, 9), Ord: 1}), api.ErrNone},
	}
	for _, c := range cases {
		if e := s.Do(c.r); e != c.want {
			t.Errorf("P24.1: Do(%v) = %d; want %d", c.r, e, c.want)
		}
		if digestOf(s) != before {
			t.Fatalf("P24.1: Do(%v) has an effect", c.r)
		}
	}
	for i := 2; i < 47; i++ {
		must(t, s, record.Change(change(0, i, 100+i, 1, 0, 0, 1, api.Id{})))
	}
	if e := s.Do(record.Change(early)); e != api.ErrCount {
		t.Error("P24.1: Do of the 49th change", e)
	}
}

// P24.1: Make.
func TestMake(t *testing.T) {
	s := state.New(1)
	must(t, s, record.Change(restock), record.Change(early), record.Change(place))
	before := digestOf(s)
	c := api.Change{Id: id(3, 9), Time: 99, Kind: 3, A: 1, B: 2, N: 4, Ref: id(7, 1)}
	got, e := s.Make(c)
	c.Id, c.Time = id(1, 2), 6
	if e != api.OK || got != c {
		t.Errorf("P24.1: Make = %v, %d", got, e)
	}
	for _, edit := range []func(c *api.Change){func(c *api.Change) { c.Kind = 256 }, func(c *api.Change) { c.A = -1 }, func(c *api.Change) { c.B = 256 }, func(c *api.Change) { c.Ref.Seq = 65536 }, func(c *api.Change) { c.Ref.Replica = -1 }} {
		x := c
		edit(&x)
		if got, e := s.Make(x); e != api.ErrRange || got != (api.Change{}) {
			t.Errorf("P24.1: Make(%v) = %v, %d", x, got, e)
		}
	}
	if digestOf(s) != before {
		t.Error("P24.1: Make has an effect")
	}
	must(t, s, record.Change(change(3, 1, api.MaxTime-1, 1, 0, 0, 1, api.Id{})))
	if got, e := s.Make(c); e != api.OK || got.Time != api.MaxTime {
		t.Error("P24.1: Make at the end of time", got, e)
	}
	must(t, s, record.Change(change(3, 2, api.MaxTime, 1, 0, 0, 1, api.Id{})))
	if got, e := s.Make(c); e != api.ErrRange || got != (api.Change{}) {
		t.Error("P24.1: Make after the end of time", got, e)
	}
	for i := 2; i < 45; i++ {
		must(t, s, record.Change(change(0, i, 100+i, 1, 0, 0, 1, api.Id{})))
	}
	must(t, s, record.Commit(restock.Id))
	if _, e := s.Make(c); e != api.ErrCount {
		t.Error("P24.1: Make of the 49th change", e)
	}
	c.Kind = 999
	if got, e := s.Make(c); e != api.ErrCount || got != (api.Change{}) {
		t.Error("P24.1: Make of a wrong 49th change", got, e)
	}
}

// P24.1: the last change that may be made.
func TestMakeLast(t *testing.T) {
	for _, commits := range []int{0, 5, 48} {
		s := state.New(1)
		for i := range api.MaxChanges {
			c, e := s.Make(api.Change{Kind: 1, A: 1, N: 1})
			if e != api.OK || c.Id != id(1, i+1) || c.Time != i+1 {
				t.Fatalf("P24.1: Make of change %d = %v, %d", i+1, c, e)
			}
			must(t, s, record.Change(c))
			if i < commits {
				must(t, s, record.Commit(c.Id))
			}
		}
		if c, e := s.Make(api.Change{Kind: 1, A: 1, N: 1}); e != api.ErrCount || c != (api.Change{}) {
			t.Error("P24.1: Make of change 49", c, e)
		}
	}
}

// P24.1: Quiet needs both.
func TestQuiet(t *testing.T) {
	s := state.New(1)
	must(t, s, record.Change(restock))
	if s.Quiet() {
		t.Error("P24.1: Quiet with a tentative change")
	}
	must(t, s, record.Commit(restock.Id))
	if !s.Quiet() {
		t.Error("P24.1: not Quiet")
	}
	must(t, s, record.Change(place), record.Commit(place.Id))
	if s.Quiet() {
		t.Error("P24.1: Quiet with requests to be sent")
	}
	for o := 1; o <= 2; o++ {
		k := api.Key{Id: place.Id, Ord: o}
		must(t, s, record.Try(k, o), record.Ack(k))
	}
	if !s.Quiet() {
		t.Error("P24.1: not Quiet at the end")
	}
}

// P24.1: Load is that of the ledger.
func TestLoad(t *testing.T) {
	s := state.New(1)
	must(t, s, record.Change(restock), record.Change(place))
	e := entry.Entry{Ord: 4, What: api.Effect{Kind: 1, A: 3, N: 8, Ref: place.Id}, Sent: 1, Last: 9, Acked: true}
	if s.Load(chain.Chain{Id: id(0, 1), Made: 1}) || s.Load(chain.Chain{Id: id(1, 2), Made: 1}) || s.Load(chain.Chain{Id: place.Id, Made: 3, Stack: []entry.Entry{e}}) {
		t.Error("P24.1: Load of a wrong chain")
	}
	if !s.Load(chain.Chain{Id: place.Id, Made: 4, Stack: []entry.Entry{e}}) || len(s.Chains()[0].Stack) != 1 || s.Chains()[0].Stack[0] != e {
		t.Error("P24.1: Load", s.Chains())
	}
}

func records() []record.Record {
	k := api.Key{Id: place.Id, Ord: 1}
	back := k
	back.Undo = true
	return []record.Record{record.Change(restock), record.Change(place), record.Try(k, 2), record.Ack(k), record.Change(early), record.Try(back, 3), record.Change(cancel), record.Commit(restock.Id), record.Commit(early.Id), record.Change(deposit), record.Ack(back), record.Commit(place.Id), record.Commit(cancel.Id)}
}

// P24.1, P24.2: Fold executes up to the first error; the state depends on the executed records only.
func TestFold(t *testing.T) {
	l := records()
	for n := range len(l) + 1 {
		s, done := state.Fold(1, l[:n]...)
		x := state.New(1)
		for i, r := range l[:n] {
			x.Do(record.Commit(id(3, 3)))
			x.Do(r)
			if i%2 == 0 {
				x.Make(restock)
				x.Logs()
			}
			if r.Kind != 3 {
				x.Do(r)
			}
		}
		if done != n || digestOf(s) != digestOf(x) {
			t.Errorf("P24.2: Fold of %d records: %d", n, done)
		}
	}
	for at := range len(l) + 1 {
		with := slices.Insert(slices.Clone(l), at, record.Commit(id(3, 3)))
		s, done := state.Fold(1, with...)
		want, _ := state.Fold(1, l[:at]...)
		if done != at || digestOf(s) != digestOf(want) {
			t.Errorf("P24.1: Fold with an error at %d: %d", at, done)
		}
	}
	if s, done := state.Fold(77); done != 0 || s.Replica() != 3 {
		t.Error("P24.1: Fold of nothing")
	}
}

// P24.1, P2: clones are independent.
func TestClone(t *testing.T) {
	l := records()
	for n := range len(l) {
		s, _ := state.Fold(1, l[:n]...)
		c := s.Clone()
		before := digestOf(s)
		if digestOf(c) != before {
			t.Fatalf("P24.1: Clone after %d records", n)
		}
		must(t, c, l[n:]...)
		if digestOf(s) != before {
			t.Fatalf("P2: a change of a clone after %d records changes the state", n)
		}
		d := c.Clone()
		after := digestOf(c)
		must(t, s, l[n:]...)
		d.Logs().Commit(deposit.Id)
		d.Do(record.Commit(deposit.Id))
		if digestOf(c) != after || digestOf(s) != after {
			t.Fatalf("P2: a clone after %d records is not independent", n)
		}
	}
}

// P2: results are new memory.
func TestMemory(t *testing.T) {
	s, _ := state.Fold(1, records()[:4]...)
	before := digestOf(s)
	s.Chains()[0].Stack[0].Ord = 99
	s.Wants()[0][0].N = 99
	s.Logs().Add(early)
	if digestOf(s) != before {
		t.Error("P2: a state hands out its memory")
	}
}

// P24.1, P1: a nil State, and one that was not created.
func TestUnmade(t *testing.T) {
	for _, s := range []*state.State{nil, new(state.State)} {
		if s.Do(record.Change(restock)) != api.ErrState || s.Do(record.Record{}) != api.ErrState || s.Logs() != nil || len(s.Ready(config, 0)) != 0 || len(s.Dead(config, 0)) != 0 || len(s.Chains()) != 0 || len(s.Wants()) != 0 || s.Load(chain.Chain{}) || s.Replica() != -1 || s.Quiet() || s.Clone() != nil {
			t.Error("P24.1: an unmade state does something")
		}
		if c, e := s.Make(restock); e != api.ErrState || c != (api.Change{}) {
			t.Error("P24.1: an unmade state makes a change")
		}
	}
}
