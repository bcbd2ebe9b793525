package peer_test

import (
	"fmt"
	"slices"
	"testing"

	"countermand/api"
	"countermand/msg"
	"countermand/peer"
	"countermand/record"
	"countermand/state"
)

func id(replica, seq int) api.Id { return api.Id{Replica: replica, Seq: seq} }

// numbered is change i of a list in which every replica has each fourth change.
func numbered(i int) api.Change {
	return api.Change{Id: id(i%4, i/4+1), Time: i + 1, Kind: 1, A: i % 8, N: int64(i + 1)}
}

// with returns a state that knows the changes up to known and has committed those up to done.
func with(t *testing.T, r, known, done int) *state.State {
	t.Helper()
	s := state.New(r)
	for i := range known {
		if e := s.Do(record.Change(numbered(i))); e != api.OK {
			t.Fatal("no change", i, e)
		}
	}
	for i := range done {
		if e := s.Do(record.Commit(numbered(i).Id)); e != api.OK {
			t.Fatal("no commit", i, e)
		}
	}
	return s
}

func digest(s *state.State) string {
	return fmt.Sprint(s.Replica(), s.Logs().Committed(), s.Logs().Tentative(), s.Chains(), s.Wants())
}

// P27.1: Ask.
func TestAsk(t *testing.T) {
	s := with(t, 2, 11, 5)
	want := msg.Msg{Kind: 1, From: 2, To: 3, Known: [4]int{3, 3, 3, 2}, Base: 5}
	if got := peer.Ask(s, 3); !msg.Same(got, want) {
		t.Errorf("P27.1: Ask = %v; want %v", got, want)
	}
	if got := peer.Ask(state.New(0), 1); !msg.Same(got, msg.Msg{Kind: 1, To: 1}) {
		t.Errorf("P27.1: Ask of a new state = %v", got)
	}
	for _, s := range []*state.State{nil, new(state.State)} {
		if got := peer.Ask(s, 3); !msg.Same(got, msg.Msg{}) {
			t.Errorf("P27.1: Ask of an unmade state = %v", got)
		}
	}
}

// P27.1: Answer: the Ids from Base on and the changes that are lacking, committed ones first.
func TestAnswer(t *testing.T) {
	for _, known := range []int{0, 3, 8, 20, 30, 48} {
		for _, done := range []int{0, 2, 15, 16, 17, 30, 48} {
			if done > known {
				continue
			}
			s := with(t, 1, known, done)
			all := append(s.Logs().Committed(), s.Logs().Tentative()...)
			for _, base := range []int{0, 1, 2, 14, 15, 16, 17, 31, 47, 48} {
				for _, has := range [][4]int{{}, {1, 1, 1, 1}, {12, 0, 3, 1}, {12, 12, 12, 12}, {0, 0, 0, 65535}} {
					want := msg.Msg{Kind: 2, From: 1, To: 3, Base: base}
					for i := base; i < done && len(want.Ids) < 16; i++ {
						want.Ids = append(want.Ids, all[i].Id)
					}
					for _, c := range all {
						if c.Id.Seq > has[c.Id.Replica] && len(want.Changes) < 8 {
							want.Changes = append(want.Changes, c)
						}
					}
					got, ok := peer.Answer(s, msg.Msg{Kind: 1, From: 3, To: 1, Known: has, Base: base})
					if !ok || !msg.Same(got, want) {
						t.Fatalf("P27.1: Answer of %d, %d to %d, %v = %v, %v; want %v", known, done, base, has, got, ok, want)
					}
				}
			}
		}
	}
}

// P27.1: a committed change comes before an earlier tentative one.
func TestAnswerOrder(t *testing.T) {
	s := with(t, 1, 3, 0)
	s.Do(record.Commit(numbered(2).Id))
	got, _ := peer.Answer(s, msg.Msg{Kind: 1, From: 0, To: 1})
	if want := []api.Change{numbered(2), numbered(0), numbered(1)}; !slices.Equal(got.Changes, want) || !slices.Equal(got.Ids, []api.Id{numbered(2).Id}) {
		t.Errorf("P27.1: Answer = %v", got)
	}
}

// P27.1: what is not answered.
func TestAnswerRejects(t *testing.T) {
	s := with(t, 1, 5, 2)
	fine := msg.Msg{Kind: 1, From: 3, To: 1, Base: 1}
	wrong := map[string]func(m *msg.Msg){
		"another replica": func(m *msg.Msg) { m.To = 2 }, "the gateway": func(m *msg.Msg) { m.To = 9 }, "a push": func(m *msg.Msg) { m.Kind = 2 }, "no kind": func(m *msg.Msg) { m.Kind = 0 },
		"a wrong Base": func(m *msg.Msg) { m.Base = 49 }, "a negative Base": func(m *msg.Msg) { m.Base = -1 }, "a wrong vector": func(m *msg.Msg) { m.Known[0] = -1 }, "a wrong sender": func(m *msg.Msg) { m.From = 4 }, "Ids": func(m *msg.Msg) { m.Ids = []api.Id{id(0, 1)} },
		"a request": func(m *msg.Msg) {
			*m = msg.Msg{Kind: 3, From: 1, To: 9, Key: api.Key{Id: id(0, 1), Ord: 1}, What: api.Effect{Kind: 1}}
		},
		"an answer": func(m *msg.Msg) { *m = msg.Msg{Kind: 4, From: 9, To: 1, Key: api.Key{Id: id(0, 1), Ord: 1}} },
	}
	for name, edit := range wrong {
		m := msg.Clone(fine)
		edit(&m)
		if got, ok := peer.Answer(s, m); ok || !msg.Same(got, msg.Msg{}) {
			t.Errorf("P27.1: Answer to %s = %v", name, got)
		}
	}
	if _, ok := peer.Answer(s, fine); !ok {
		t.Error("P27.1: no answer")
	}
	fine.From = 1
	if got, ok := peer.Answer(s, fine); !ok || got.To != 1 {
		t.Error("P27.1: no answer to itself")
	}
	for _, s := range []*state.State{nil, new(state.State)} {
		for to := -1; to <= 1; to++ {
			if got, ok := peer.Answer(s, msg.Msg{Kind: 1, From: 3, To: to}); ok || !msg.Same(got, msg.Msg{}) {
				t.Errorf("P27.1: Answer of an unmade state = %v", got)
			}
		}
	}
}

func push(base int, ids []api.Id, changes ...api.Change) msg.Msg {
	return msg.Msg{Kind: 2, From: 0, To: 1, Base: base, Ids: ids, Changes: changes}
}

func ids(l ...int) []api.Id {
	var out []api.Id
	for _, i := range l {
		out = append(out, numbered(i).Id)
	}
	return out
}

func check(t *testing.T, name string, s *state.State, m msg.Msg, want ...record.Record) {
	t.Helper()
	before := digest(s)
	if got := peer.Take(s, m); !slices.Equal(got, want) {
		t.Errorf("P27.1: Take of %s = %v; want %v", name, got, want)
	}
	if digest(s) != before {
		t.Errorf("P27.1: Take of %s changes the state", name)
	}
}

// P27.1: Take: changes as far as they can be executed, then Ids from the right index on.
func TestTake(t *testing.T) {
	change := func(i int) record.Record { return record.Change(numbered(i)) }
	commit := func(i int) record.Record { return record.Commit(numbered(i).Id) }
	n := numbered
	check(t, "nothing", with(t, 1, 0, 0), push(0, nil))
	check(t, "changes", with(t, 1, 0, 0), push(0, nil, n(0), n(1), n(4)), change(0), change(1), change(4))
	check(t, "changes of which some are known", with(t, 1, 2, 0), push(0, nil, n(0), n(5), n(2), n(1)), change(5), change(2))
	check(t, "a change with a gap", with(t, 1, 0, 0), push(0, nil, n(4), n(8), n(0), n(4), n(12)), change(0), change(4))
	check(t, "a change twice", with(t, 1, 0, 0), push(0, nil, n(0), n(0)), change(0))
	check(t, "changes and commits", with(t, 1, 0, 0), push(0, ids(0, 4, 1), n(0), n(1), n(4)), change(0), change(1), change(4), commit(0), commit(4), commit(1))
	check(t, "commits that are known", with(t, 1, 5, 2), push(0, ids(0, 1, 2, 3)), commit(2), commit(3))
	check(t, "commits from there on", with(t, 1, 5, 2), push(2, ids(2, 3)), commit(2), commit(3))
	check(t, "commits before there", with(t, 1, 5, 2), push(1, ids(1, 2)), commit(2))
	check(t, "a Base that is too great", with(t, 1, 5, 2), push(3, ids(2, 3)))
	check(t, "a Base that is too great, and a change", with(t, 1, 5, 2), push(3, ids(3, 4), n(5)), change(5))
	check(t, "too few commits", with(t, 1, 5, 4), push(0, ids(0, 1)))
	check(t, "just the known commits", with(t, 1, 5, 2), push(0, ids(0, 1)))
	check(t, "a commit of an unknown change", with(t, 1, 5, 2), push(2, ids(2, 9, 3)), commit(2))
	check(t, "a commit of a change that is not free", with(t, 1, 5, 0), push(0, ids(0, 1, 2, 3, 4)), commit(0), commit(1), commit(2), commit(3), commit(4))
	check(t, "commits out of order", with(t, 1, 8, 0), push(0, ids(1, 5, 4, 0)), commit(1), commit(5))
	check(t, "other known commits", with(t, 1, 5, 2), push(0, ids(3, 4, 2)), commit(2))
}

// P27.1: invalid messages, and messages to others.
func TestTakeRejects(t *testing.T) {
	s := with(t, 1, 5, 2)
	fine := push(2, ids(2), numbered(5))
	check(t, "a push", s, fine, record.Change(numbered(5)), record.Commit(numbered(2).Id))
	wrong := map[string]func(m *msg.Msg){
		"another replica's push": func(m *msg.Msg) { m.To = 2 }, "an ask": func(m *msg.Msg) { m.Kind = 1 }, "no kind": func(m *msg.Msg) { m.Kind = 0 }, "a wrong Base": func(m *msg.Msg) { m.Base = -1 }, "a wrong sender": func(m *msg.Msg) { m.From = 9 },
		"a wrong Id": func(m *msg.Msg) { m.Ids = append(slices.Clone(m.Ids), api.Id{}) }, "a wrong change": func(m *msg.Msg) { m.Changes = append(slices.Clone(m.Changes), api.Change{}) },
		"17 Ids":       func(m *msg.Msg) { m.Ids = slices.Repeat(ids(2), 17) },
		"9 changes":    func(m *msg.Msg) { m.Changes = slices.Repeat([]api.Change{numbered(5)}, 9) },
		"another key":  func(m *msg.Msg) { m.Key.Ord = 1 },
		"a wrong What": func(m *msg.Msg) { m.What.N = 1 },
	}
	for name, edit := range wrong {
		m := msg.Clone(fine)
		edit(&m)
		check(t, name, s, m)
	}
	for _, s := range []*state.State{nil, new(state.State)} {
		for to := -1; to <= 1; to++ {
			fine.To = to
			if got := peer.Take(s, fine); len(got) != 0 {
				t.Error("P27.1: Take of an unmade state", got)
			}
		}
	}
}

// P27.1: Behind looks at changes and commits.
func TestBehind(t *testing.T) {
	cases := []struct {
		aKnown, aDone, bKnown, bDone int
		want                         bool
	}{{0, 0, 0, 0, false}, {0, 0, 1, 0, true}, {1, 0, 0, 0, false}, {5, 2, 5, 2, false}, {5, 2, 5, 3, true}, {5, 3, 5, 2, false}, {5, 5, 6, 0, true}, {6, 0, 5, 5, true}}
	for _, c := range cases {
		if got := peer.Behind(with(t, 0, c.aKnown, c.aDone), with(t, 1, c.bKnown, c.bDone)); got != c.want {
			t.Errorf("P27.1: Behind of %v = %v", c, got)
		}
	}
	one, other := state.New(0), state.New(1)
	one.Do(record.Change(numbered(0)))
	other.Do(record.Change(numbered(1)))
	if !peer.Behind(one, other) || !peer.Behind(other, one) {
		t.Error("P27.1: Behind of states that know different changes")
	}
	for _, s := range []*state.State{nil, new(state.State)} {
		if peer.Behind(s, one) || peer.Behind(one, s) || peer.Behind(s, s) {
			t.Error("P27.1: Behind of an unmade state")
		}
	}
}

// P27.2: asking again and again is enough; a push that arrives twice is not accepted again.
func TestConvergence(t *testing.T) {
	for _, known := range []int{0, 1, 7, 20, 48} {
		for _, done := range []int{0, 1, 19, 48} {
			if done > known {
				continue
			}
			from, to := with(t, 0, known, done), with(t, 1, known/3, done/4)
			rounds := 0
			for ; peer.Behind(to, from) && rounds < 20; rounds++ {
				m, ok := peer.Answer(from, peer.Ask(to, 0))
				if !ok {
					t.Fatal("P27.2: no answer")
				}
				for _, r := range peer.Take(to, m) {
					if e := to.Do(r); e != api.OK {
						t.Fatalf("P27.2: an accepted record cannot be executed: %v, %d", r, e)
					}
				}
				if again := peer.Take(to, m); len(again) != 0 {
					t.Fatalf("P27.2: accepted twice: %v", again)
				}
			}
			if peer.Behind(to, from) || !slices.Equal(to.Logs().Committed(), from.Logs().Committed()) || !slices.Equal(to.Logs().Tentative(), from.Logs().Tentative()) {
				t.Errorf("P27.2: %d, %d: not the same after %d rounds", known, done, rounds)
			}
		}
	}
}

// P2: messages share no memory with a state or each other.
func TestMemory(t *testing.T) {
	s := with(t, 1, 20, 10)
	before := digest(s)
	ask := msg.Msg{Kind: 1, From: 3, To: 1}
	m, _ := peer.Answer(s, ask)
	saved := msg.Clone(m)
	again, _ := peer.Answer(s, ask)
	again.Ids[0].Seq, again.Changes[0].N = 99, 99
	_ = append(again.Changes, numbered(0))
	if !msg.Same(m, saved) || digest(s) != before {
		t.Error("P2: an answer shares memory")
	}
	m = push(0, ids(0), numbered(0))
	records := peer.Take(with(t, 1, 0, 0), m)
	records[0].C.N = 99
	if m.Changes[0] != numbered(0) {
		t.Error("P2: Take shares memory with the message")
	}
}
