package image_test

import (
	"bytes"
	"fmt"
	"math"
	"testing"

	"countermand/api"
	"countermand/change"
	"countermand/entry"
	"countermand/image"
	"countermand/record"
	"countermand/state"
)

var config = api.Config{Replicas: 4, Sectors: 9, Most: 3, Base: 3, Cap: 10}

func id(replica, seq int) api.Id { return api.Id{Replica: replica, Seq: seq} }

func make1(replica, seq, time, kind, a, b int, n int64, ref api.Id) api.Change {
	return api.Change{Id: id(replica, seq), Time: time, Kind: kind, A: a, B: b, N: n, Ref: ref}
}

var (
	restock = make1(0, 1, 1, 1, 3, 0, 10, api.Id{})
	place   = make1(1, 1, 5, 3, 2, 3, 8, api.Id{})
	early   = make1(2, 1, 3, 3, 4, 3, 6, api.Id{})
	cancel  = make1(1, 2, 7, 5, 0, 0, 0, id(1, 1))
	deposit = make1(1, 3, 9, 2, 2, 0, 100, api.Id{})
	k1      = api.Key{Id: place.Id, Ord: 1}
	back1   = api.Key{Id: place.Id, Ord: 1, Undo: true}
)

func records() []record.Record {
	return []record.Record{record.Change(restock), record.Change(place), record.Try(k1, 2), record.Try(k1, 6), record.Ack(k1), record.Change(early), record.Try(back1, 7), record.Change(cancel), record.Commit(restock.Id), record.Commit(early.Id), record.Change(deposit), record.Ack(back1), record.Commit(place.Id), record.Commit(cancel.Id), record.Commit(deposit.Id), record.Try(api.Key{Id: deposit.Id, Ord: 1}, 20)}
}

func folded(t *testing.T, r, n int) *state.State {
	t.Helper()
	s, done := state.Fold(r, records()[:n]...)
	if done != n {
		t.Fatal("a record is not executed", done)
	}
	return s
}

// digestOf is all that a state tells.
func digestOf(s *state.State) string {
	l := s.Logs()
	text := fmt.Sprintf("%d %v %v %v %v %v %v %v", s.Replica(), l.Committed(), l.Tentative(), l.Base(), l.Seen(), s.Chains(), s.Wants(), s.Quiet())
	for _, now := range []int{0, 5, 9, 13, 50} {
		text += fmt.Sprint(s.Ready(config, now), s.Dead(config, now))
	}
	return text
}

func encoded(t *testing.T, s *state.State) []byte {
	t.Helper()
	var out []byte
	for _, l := range [][]api.Change{s.Logs().Committed(), s.Logs().Tentative()} {
		out = append(out, byte(len(l)))
		for _, c := range l {
			b, _ := change.Put(c)
			out = append(out, b...)
		}
	}
	for _, c := range s.Chains() {
		out = append(out, byte(c.Made), byte(len(c.Stack)))
		for _, e := range c.Stack {
			out = append(out, entry.Put(e)...)
		}
	}
	return out
}

// P25.1: the parts of an image.
func TestPut(t *testing.T) {
	if got := image.Put(state.New(2)); !bytes.Equal(got, []byte{0, 0}) {
		t.Error("P25.1: the image of a new state", got)
	}
	for n := range len(records()) + 1 {
		s := folded(t, 1, n)
		if got, want := image.Put(s), encoded(t, s); !bytes.Equal(got, want) {
			t.Errorf("P25.1: the image after %d records = %v; want %v", n, got, want)
		}
	}
	for _, s := range []*state.State{nil, new(state.State)} {
		if got := image.Put(s); len(got) != 0 {
			t.Error("P25.1: the image of an unmade state", got)
		}
	}
}

// P25.1, P25.2: a state is restored, and what follows is the same.
func TestGet(t *testing.T) {
	l := records()
	for n := range len(l) + 1 {
		s := folded(t, 1, n)
		got, e := image.Get(1, image.Put(s))
		if e != api.OK || digestOf(got) != digestOf(s) || !image.Same(got, s) {
			t.Fatalf("P25.2: after %d records: %d", n, e)
		}
		for _, r := range l[n:] {
			if x, y := got.Do(r), s.Do(r); x != y {
				t.Fatalf("P25.2: after %d records: Do(%v) = %d; want %d", n, r, x, y)
			}
		}
		if digestOf(got) != digestOf(s) {
			t.Errorf("P25.2: after %d records, and all others", n)
		}
		a, e1 := got.Make(restock)
		b, e2 := s.Make(restock)
		if a != b || e1 != e2 {
			t.Errorf("P25.2: after %d records: Make", n)
		}
	}
}

// P25.1: the image belongs to a replica.
func TestGetReplica(t *testing.T) {
	for r := range 4 {
		s, e := image.Get(r, []byte{0, 0})
		if e != api.OK || s.Replica() != r {
			t.Error("P25.1: Get of an empty image for replica", r, e)
		}
	}
	b := image.Put(folded(t, 1, 2))
	if s, e := image.Get(3, b); e != api.ErrSyntax || s != nil {
		t.Error("P25.1: Get for a replica with other chains", e)
	}
	b = image.Put(folded(t, 3, 2))
	if s, e := image.Get(3, b); e != api.OK || len(s.Chains()) != 0 {
		t.Error("P25.1: Get for a replica without own changes", e)
	}
}

// P25.1: there is no state of a replica that there is not, whatever the image.
func TestGetNoReplica(t *testing.T) {
	l := []*state.State{state.New(0), state.New(3), folded(t, 0, 1), folded(t, 3, 2)}
	for n := range len(records()) + 1 {
		l = append(l, folded(t, 1, n))
	}
	for _, s := range l {
		b := image.Put(s)
		if got, e := image.Get(s.Replica(), b); e != api.OK || !image.Same(got, s) {
			t.Errorf("P25.1: Get(%d, %v): %d", s.Replica(), b, e)
		}
		for _, r := range []int{math.MinInt, -256, -4, -1, api.MaxReplicas, api.MaxReplicas + 1, 7, 256, 1 << 32, math.MaxInt} {
			if got, e := image.Get(r, b); e != api.ErrSyntax || got != nil {
				t.Errorf("P25.1: Get(%d, %v): %d, and a state of replica %d", r, b, e, got.Replica())
			}
		}
	}
}

func reject(t *testing.T, name string, b []byte) {
	t.Helper()
	for r := -1; r <= 4; r++ {
		if s, e := image.Get(r, b); e != api.ErrSyntax || s != nil {
			t.Errorf("P25.1: Get(%d) of %s: %d", r, name, e)
		}
	}
}

func list(l ...api.Change) []byte {
	b, _ := change.All(l)
	return b
}

// P25.1: what is not an image of any state.
func TestGetRejects(t *testing.T) {
	reject(t, "nothing", nil)
	reject(t, "one byte", []byte{0})
	reject(t, "three bytes", []byte{0, 0, 0})
	for n := range len(records()) + 1 {
		b := image.Put(folded(t, 1, n))
		for i := range b {
			if s, e := image.Get(1, b[:i]); e != api.ErrSyntax || s != nil {
				t.Errorf("P25.1: Get of %d of %d bytes: %d", i, len(b), e)
			}
		}
		if s, e := image.Get(1, append(bytes.Clone(b), 0)); e != api.ErrSyntax || s != nil {
			t.Errorf("P25.1: Get of a longer image: %d", e)
		}
	}
	second := make1(0, 2, 4, 1, 3, 0, 10, api.Id{})
	cases := map[string][]byte{
		"changes in another order":      append(list(), list(early, restock)...),
		"a gap":                         append(list(), list(second)...),
		"a committed gap":               append(list(second, restock), 0),
		"a change twice":                append(list(restock), list(restock)...),
		"a change twice, tentative":     append(list(), list(restock, restock)...),
		"a wrong change":                append([]byte{1}, make([]byte, 23)...),
		"49 changes":                    append([]byte{49}, make([]byte, 49*22+1)...),
		"more changes than there are":   append([]byte{2}, list(restock)[1:]...),
		"a missing list of tentatives":  list(restock),
		"chains of no own change":       {0, 0, 0, 0},
		"tentative, but in wrong order": append(list(restock), list(place, early)...),
	}
	for name, b := range cases {
		reject(t, name, b)
	}
}

// P25.1: chains that no state has.
func TestGetChains(t *testing.T) {
	head := append(list(), list(restock, place)...)
	reserve := api.Effect{Kind: 1, A: 3, N: 8, Ref: place.Id}
	e := entry.Entry{Ord: 1, What: reserve, Sent: 1, Last: 2, Acked: true}
	image1 := func(made, n int, l ...entry.Entry) []byte {
		b := append(bytes.Clone(head), byte(made), byte(n))
		for _, e := range l {
			b = append(b, entry.Put(e)...)
		}
		return b
	}
	fine := [][]byte{image1(0, 0), image1(255, 0), image1(1, 1, e), image1(9, 1, e)}
	for i, b := range fine {
		if s, x := image.Get(1, b); x != api.OK || !bytes.Equal(image.Put(s), b) {
			t.Errorf("P25.1: Get of chain %d: %d", i, x)
		}
	}
	other, late, gone := e, e, e
	other.What.N++
	late.Ord = 2
	gone.Gone = true
	unsettled := late
	wrong := map[string][]byte{"no chain": head, "more entries": image1(1, 2, e), "fewer entries": image1(1, 0, e), "Made too small": image1(0, 1, e), "another effect that is not Gone": image1(1, 1, other), "entries in another order": image1(2, 2, late, e), "one entry too many that is not Gone": image1(2, 2, e, unsettled), "an entry above a Gone one": image1(2, 2, gone, late)}
	bad := image1(1, 1, e)
	bad[len(bad)-1] = 0
	wrong["a wrong entry"] = bad
	for name, b := range wrong {
		if s, x := image.Get(1, b); x != api.ErrSyntax || s != nil {
			t.Errorf("P25.1: Get of %s: %d", name, x)
		}
	}
	if _, x := image.Get(1, image1(1, 1, gone)); x != api.OK {
		t.Error("P25.1: Get of a Gone entry", x)
	}
}

// P25.1: Same looks at replicas and images.
func TestSame(t *testing.T) {
	a, b := folded(t, 1, 8), folded(t, 1, 8)
	if !image.Same(a, b) || !image.Same(a, a.Clone()) || !image.Same(nil, nil) || !image.Same(nil, new(state.State)) {
		t.Error("P25.1: Same of equal states")
	}
	if image.Same(a, folded(t, 1, 7)) || image.Same(state.New(0), state.New(1)) || image.Same(nil, state.New(0)) || image.Same(state.New(0), nil) {
		t.Error("P25.1: Same of different states")
	}
	b.Do(record.Ack(back1))
	if image.Same(a, b) {
		t.Error("P25.1: Same overlooks an answer")
	}
}

// P2: an image is new memory, and a state keeps none of it.
func TestMemory(t *testing.T) {
	s := folded(t, 1, 8)
	b := image.Put(s)
	saved := bytes.Clone(b)
	got, _ := image.Get(1, b)
	for i := range b {
		b[i] = 0xff
	}
	if !bytes.Equal(image.Put(got), saved) || !bytes.Equal(image.Put(s), saved) {
		t.Error("P2: an image is kept")
	}
}
