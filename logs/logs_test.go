package logs_test

import (
	"math"
	"slices"
	"testing"

	"countermand/api"
	"countermand/deal"
	"countermand/fold"
	"countermand/logs"
)

func id(replica, seq int) api.Id { return api.Id{Replica: replica, Seq: seq} }

func change(replica, seq, time, kind, a, b int, n int64) api.Change {
	return api.Change{Id: id(replica, seq), Time: time, Kind: kind, A: a, B: b, N: n}
}

func must(t *testing.T, e api.Errno) {
	t.Helper()
	if e != api.OK {
		t.Fatal("P19.1: an error:", e)
	}
}

// check compares everything that logs tell with what follows from both lists.
func check(t *testing.T, name string, l *logs.Logs, done, tent []api.Change) {
	t.Helper()
	all := append(slices.Clone(done), tent...)
	base, _ := fold.Run(api.Book{}, done...)
	seen, outcomes := fold.Run(api.Book{}, all...)
	if !slices.Equal(l.Committed(), done) || !slices.Equal(l.Tentative(), tent) {
		t.Errorf("P19.1: %s: %v, %v; want %v, %v", name, l.Committed(), l.Tentative(), done, tent)
	}
	if !deal.Same(l.Base(), base) || !deal.Same(l.Seen(), seen) {
		t.Errorf("P19.1: %s: the bookings %v, %v", name, l.Base(), l.Seen())
	}
	var known [4]int
	clock := 0
	for i, c := range all {
		known[c.Id.Replica] = max(known[c.Id.Replica], c.Id.Seq)
		clock = max(clock, c.Time)
		o, committed, ok := l.Outcome(c.Id)
		if !fold.Same([]api.Outcome{o}, outcomes[i:i+1]) || committed != (i < len(done)) || !ok {
			t.Errorf("P19.1: %s: Outcome(%v) = %v, %v, %v", name, c.Id, o, committed, ok)
		}
	}
	if l.Known() != known || l.Clock() != clock {
		t.Errorf("P19.1: %s: Known %v, Clock %d", name, l.Known(), l.Clock())
	}
	a, ok := l.First()
	if ok != (len(tent) > 0) || ok && a != tent[0].Id || !ok && a != (api.Id{}) {
		t.Errorf("P19.1: %s: First = %v, %v", name, a, ok)
	}
	for _, a := range []api.Id{{}, id(3, 9), id(0, 40), id(-1, 1)} {
		if o, committed, ok := l.Outcome(a); o.Code != 0 || len(o.Effects) != 0 || committed || ok {
			t.Errorf("P19.1: %s: Outcome(%v) is known", name, a)
		}
	}
}

var (
	restock = change(0, 1, 2, 1, 3, 0, 10)
	place   = change(1, 1, 5, 3, 2, 3, 8)
	early   = change(2, 1, 3, 3, 4, 3, 6)
	late    = change(1, 2, 7, 3, 2, 3, 1)
	price   = change(0, 2, 6, 9, 3, 0, 5)
)

// P19.1: adding and committing; a change that comes later may be executed earlier.
func TestAddCommit(t *testing.T) {
	l := logs.New()
	check(t, "new", l, nil, nil)
	must(t, l.Add(restock))
	must(t, l.Add(place))
	check(t, "two", l, nil, []api.Change{restock, place})
	if o, _, _ := l.Outcome(place.Id); o.Code != api.OK {
		t.Error("P19.1: place fails", o.Code)
	}
	must(t, l.Add(early))
	check(t, "three", l, nil, []api.Change{restock, early, place})
	if o, _, _ := l.Outcome(place.Id); o.Code != api.ErrShort {
		t.Error("P19.1: place is not executed again", o.Code)
	}
	must(t, l.Add(late))
	must(t, l.Add(price))
	check(t, "five", l, nil, []api.Change{restock, early, place, price, late})
	must(t, l.Commit(restock.Id))
	must(t, l.Commit(place.Id))
	check(t, "two committed", l, []api.Change{restock, place}, []api.Change{early, price, late})
	if o, _, _ := l.Outcome(early.Id); o.Code != api.ErrShort {
		t.Error("P19.1: early is not executed again", o.Code)
	}
	must(t, l.Commit(late.Id))
	must(t, l.Commit(price.Id))
	must(t, l.Commit(early.Id))
	check(t, "all committed", l, []api.Change{restock, place, late, price, early}, nil)
}

// P19.1: the errors of Commit, without effect.
func TestCommitErrors(t *testing.T) {
	l := logs.New()
	must(t, l.Add(restock))
	must(t, l.Add(price))
	must(t, l.Add(place))
	for a, want := range map[api.Id]api.Errno{price.Id: api.ErrState, id(0, 3): api.ErrNone, id(2, 1): api.ErrNone, {}: api.ErrNone, id(-1, 7): api.ErrNone} {
		if e := l.Commit(a); e != want {
			t.Errorf("P19.1: Commit(%v) = %d; want %d", a, e, want)
		}
	}
	check(t, "errors", l, nil, []api.Change{restock, place, price})
	must(t, l.Commit(restock.Id))
	if e := l.Commit(restock.Id); e != api.ErrNone {
		t.Error("P19.1: Commit twice", e)
	}
	must(t, l.Commit(price.Id))
	check(t, "after errors", l, []api.Change{restock, price}, []api.Change{place})
}

// P19.1: the errors of Add, in order, without effect.
func TestAddErrors(t *testing.T) {
	l := logs.New()
	must(t, l.Add(restock))
	must(t, l.Add(place))
	must(t, l.Commit(place.Id))
	bad := func(c api.Change, want api.Errno) {
		t.Helper()
		if e := l.Add(c); e != want {
			t.Errorf("P19.1: Add(%v) = %d; want %d", c, e, want)
		}
		check(t, "errors of Add", l, []api.Change{place}, []api.Change{restock})
	}
	bad(restock, api.ErrState)
	bad(place, api.ErrState)
	bad(change(0, 3, 9, 1, 0, 0, 1), api.ErrState)
	bad(change(0, 2, 2, 1, 0, 0, 1), api.ErrState)
	bad(change(1, 2, 5, 1, 0, 0, 1), api.ErrState)
	bad(change(1, 3, 9, 1, 0, 0, 1), api.ErrState)
	bad(change(4, 1, 9, 1, 0, 0, 1), api.ErrState)
	bad(change(-1, 1, 9, 1, 0, 0, 1), api.ErrState)
	bad(change(2, 0, 9, 1, 0, 0, 1), api.ErrState)
	bad(change(2, 1, 0, 1, 0, 0, 1), api.ErrState)
	bad(change(2, 1, api.MaxTime+1, 1, 0, 0, 1), api.ErrState)
	bad(change(2, 1, 0, -1, 0, 0, 1), api.ErrState)
	bad(change(2, 1, 9, -1, 0, 0, 1), api.ErrRange)
	bad(change(2, 1, 9, 256, 0, 0, 1), api.ErrRange)
	bad(change(2, 1, 9, 1, 256, 0, 1), api.ErrRange)
	bad(change(2, 1, 9, 1, 0, -1, 1), api.ErrRange)
	c := change(2, 1, 9, 1, 0, 0, 1)
	c.Ref.Seq = 65536
	bad(c, api.ErrRange)
	c.Ref = id(256, 0)
	bad(c, api.ErrRange)
	must(t, l.Add(change(2, 1, 1, 1, 0, 0, 1)))
	must(t, l.Add(change(1, 2, 6, 200, 0, 0, math.MinInt64)))
	must(t, l.Add(change(3, 1, api.MaxTime, 1, 0, 0, 1)))
	if l.Clock() != api.MaxTime {
		t.Error("P19.1: Clock", l.Clock())
	}
}

// P19.1: the number of changes, committed and tentative together.
func TestCount(t *testing.T) {
	for _, commits := range []int{0, 20, 48} {
		l := logs.New()
		for i := range api.MaxChanges {
			must(t, l.Add(change(i%4, i/4+1, i+1, 1, 0, 0, 1)))
			if i < commits {
				must(t, l.Commit(id(i%4, i/4+1)))
			}
		}
		if e := l.Add(change(0, 13, 99, 1, 0, 0, 1)); e != api.ErrCount {
			t.Error("P19.1: Add of the 49th change", e)
		}
		if e := l.Add(api.Change{}); e != api.ErrCount {
			t.Error("P19.1: Add of a wrong 49th change", e)
		}
		if len(l.Committed()) != commits || len(l.Tentative()) != 48-commits {
			t.Error("P19.1: the lists", len(l.Committed()), len(l.Tentative()))
		}
	}
}

// P19.1: the example.
func TestOrder(t *testing.T) {
	l := logs.New()
	must(t, l.Add(change(0, 1, 5, 1, 0, 0, 1)))
	must(t, l.Add(change(1, 1, 3, 1, 0, 0, 1)))
	if a, ok := l.First(); a != id(1, 1) || !ok {
		t.Error("P19.1: First", a)
	}
}

// P19.2: what is committed does not depend on tentative changes.
func TestCommittedStays(t *testing.T) {
	l := logs.New()
	must(t, l.Add(restock))
	must(t, l.Add(place))
	must(t, l.Commit(restock.Id))
	must(t, l.Commit(place.Id))
	base := l.Base()
	before, _, _ := l.Outcome(place.Id)
	must(t, l.Add(early))
	must(t, l.Add(change(3, 1, 1, 1, 3, 0, 100)))
	after, committed, _ := l.Outcome(place.Id)
	if !deal.Same(l.Base(), base) || !committed || !fold.Same([]api.Outcome{before}, []api.Outcome{after}) || !slices.Equal(l.Committed(), []api.Change{restock, place}) {
		t.Error("P19.2: a tentative change alters what is committed")
	}
}

// P19.1, P2: clones and results are independent.
func TestMemory(t *testing.T) {
	l := logs.New()
	for _, c := range []api.Change{restock, place, early, price} {
		must(t, l.Add(c))
	}
	must(t, l.Commit(restock.Id))
	must(t, l.Commit(place.Id))
	done, tent := []api.Change{restock, place}, []api.Change{early, price}
	k := l.Clone()
	check(t, "clone", k, done, tent)
	must(t, k.Commit(price.Id))
	must(t, k.Add(late))
	check(t, "original", l, done, tent)
	must(t, l.Commit(early.Id))
	must(t, l.Add(change(3, 1, 8, 1, 0, 0, 1)))
	check(t, "changed clone", k, []api.Change{restock, place, price}, []api.Change{early, late})
	check(t, "changed original", l, []api.Change{restock, place, early}, []api.Change{price, change(3, 1, 8, 1, 0, 0, 1)})
	k.Committed()[0].N = -1
	k.Tentative()[0].N = -1
	k.Base().Orders[0].Qty = -1
	k.Seen().Orders[0].Qty = -1
	o, _, _ := k.Outcome(place.Id)
	o.Effects[0].N = -1
	o, _, _ = k.Outcome(late.Id)
	o.Effects[0].N = -1
	check(t, "changed results", k, []api.Change{restock, place, price}, []api.Change{early, late})
}

// P2: a clone and its original go on independently, from every number of commits.
func TestCloneGoesOn(t *testing.T) {
	for n := range 9 {
		l := logs.New()
		var done []api.Change
		for i := range n {
			c := change(3, i+1, i+1, 2, 1, 0, 5)
			must(t, l.Add(c))
			must(t, l.Commit(c.Id))
			done = append(done, c)
		}
		x, y := change(0, 1, 50, 1, 3, 0, 10), change(1, 1, 60, 1, 3, 0, 7)
		must(t, l.Add(x))
		must(t, l.Add(y))
		k := l.Clone()
		must(t, k.Commit(x.Id))
		must(t, l.Commit(y.Id))
		check(t, "clone", k, append(slices.Clone(done), x), []api.Change{y})
		check(t, "original", l, append(slices.Clone(done), y), []api.Change{x})
	}
}

// P19.1, P1: nil Logs, and Logs that New did not create.
func TestUnmade(t *testing.T) {
	for _, l := range []*logs.Logs{nil, new(logs.Logs)} {
		if l.Add(restock) != api.ErrState || l.Commit(restock.Id) != api.ErrState || len(l.Committed()) != 0 || len(l.Tentative()) != 0 || l.Known() != [4]int{} || l.Clock() != 0 || l.Clone() != nil {
			t.Error("P19.1: unmade logs do something")
		}
		if !deal.Same(l.Base(), api.Book{}) || !deal.Same(l.Seen(), api.Book{}) {
			t.Error("P19.1: unmade logs have a booking")
		}
		if o, c, ok := l.Outcome(restock.Id); c || ok || o.Code != 0 || len(o.Effects) != 0 {
			t.Error("P19.1: unmade logs have an outcome")
		}
		if a, ok := l.First(); ok || a != (api.Id{}) {
			t.Error("P19.1: unmade logs have a first change")
		}
	}
}
