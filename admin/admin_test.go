package admin_test

import (
	"slices"
	"strings"
	"testing"

	"countermand/admin"
	"countermand/api"
	"countermand/chain"
	"countermand/entry"
	"countermand/record"
	"countermand/state"
)

func id(replica, seq int) api.Id { return api.Id{Replica: replica, Seq: seq} }

func change(seq, kind, a, b int, n int64) api.Change {
	return api.Change{Id: id(1, seq), Time: seq, Kind: kind, A: a, B: b, N: n}
}

var config = api.Config{Replicas: 2, Sectors: 9, Most: 2, Base: 3, Cap: 10}

func reserve(seq int) api.Effect { return api.Effect{Kind: 1, A: 3, N: 2, Ref: id(1, seq)} }

func mail(seq int) api.Effect { return api.Effect{Kind: 7, A: 2, N: 1, Ref: id(1, seq)} }

// full returns a state with entries of every word.
func full(t *testing.T) *state.State {
	t.Helper()
	l := []record.Record{record.Change(change(1, 1, 3, 0, 100))}
	for seq := 2; seq <= 6; seq++ {
		l = append(l, record.Change(change(seq, 3, 2, 3, 2)))
	}
	l = append(l, record.Commit(id(1, 1)), record.Commit(id(1, 2)))
	s, n := state.Fold(1, l...)
	if n != len(l) {
		t.Fatal("a record is not executed", n)
	}
	sent := func(ord int, what api.Effect, n int) entry.Entry {
		return entry.Entry{Ord: ord, What: what, Sent: n, Last: 10}
	}
	done, gone, back, twice := sent(1, reserve(2), 1), sent(2, mail(3), 2), sent(7, mail(4), 1), sent(8, mail(4), 1)
	done.Acked = true
	back.Acked, back.Gone, back.Back, back.BackLast = true, true, 2, 20
	twice.Acked = true
	chains := []chain.Chain{
		{Id: id(1, 2), Made: 2, Stack: []entry.Entry{done, sent(2, mail(2), 1)}},
		{Id: id(1, 3), Made: 9, Stack: []entry.Entry{gone}},
		{Id: id(1, 4), Made: 9, Stack: []entry.Entry{back, twice}},
		{Id: id(1, 5), Made: 1, Stack: []entry.Entry{sent(1, reserve(5), 8)}},
	}
	for _, c := range chains {
		if !s.Load(c) {
			t.Fatal("a chain is not loaded", c)
		}
	}
	return s
}

func key(seq, ord int, undo bool) api.Key { return api.Key{Id: id(1, seq), Ord: ord, Undo: undo} }

// P37.1: List, at several times.
func TestList(t *testing.T) {
	s := full(t)
	want := func(words ...string) []admin.Item {
		return []admin.Item{
			{Replica: 1, Key: key(2, 1, false), What: reserve(2), Word: words[0]}, {Replica: 1, Key: key(2, 2, false), What: mail(2), Word: words[1]},
			{Replica: 1, Key: key(3, 2, false), What: mail(3), Word: words[2]},
			{Replica: 1, Key: key(4, 7, true), What: mail(4), Word: words[3]}, {Replica: 1, Key: key(4, 8, true), What: mail(4), Word: words[4]},
			{Replica: 1, Key: key(5, 1, false), What: reserve(5), Word: words[5]},
		}
	}
	cases := []struct {
		now  int
		most int
		want []admin.Item
	}{
		{12, 2, want("done", "sent", "gone", "undoing", "undoing", "sent")},
		{16, 2, want("done", "sent", "gone dead", "undoing", "undoing", "sent")},
		{20, 2, want("done", "sent", "gone dead", "undoing", "undoing", "sent dead")},
		{26, 2, want("done", "sent", "gone dead", "undoing dead", "undoing", "sent dead")},
		{26, 1, want("done", "sent dead", "gone dead", "undoing dead", "undoing", "sent dead")},
	}
	for _, c := range cases {
		g := config
		g.Most = c.most
		if got := admin.List(s, g, c.now); !slices.Equal(got, c.want) {
			t.Errorf("P37.1: List at %d with Most %d =\n%v; want\n%v", c.now, c.most, got, c.want)
		}
	}
	if got := admin.List(state.New(1), config, 5); len(got) != 0 {
		t.Error("P37.1: the example", got)
	}
	if got := admin.List(state.New(3), config, 5); len(got) != 0 {
		t.Error("P37.1: List of a new state", got)
	}
}

// P37.2, G5: dead requests have a word that ends with dead.
func TestDead(t *testing.T) {
	s := full(t)
	for now := range 50 {
		var dead []api.Key
		for _, x := range admin.List(s, config, now) {
			if strings.HasSuffix(x.Word, "dead") {
				dead = append(dead, x.Key)
			}
		}
		for _, k := range s.Dead(config, now) {
			if !slices.Contains(dead, k) {
				t.Errorf("P37.2: %v is dead at %d, but not listed as dead", k, now)
			}
		}
		if now >= 26 && !slices.Equal(dead, []api.Key{key(3, 2, false), key(4, 7, true), key(5, 1, false)}) {
			t.Errorf("P37.2: dead at %d: %v", now, dead)
		}
	}
}

// P37.1: Only and Count compare whole words.
func TestOnly(t *testing.T) {
	l := admin.List(full(t), config, 26)
	saved := slices.Clone(l)
	cases := map[string][]int{"done": {0}, "sent": {1}, "gone dead": {2}, "undoing dead": {3}, "undoing": {4}, "sent dead": {5}, "dead": nil, "gone": nil, "": nil, "Done": nil, "done ": nil}
	for word, at := range cases {
		var want []admin.Item
		for _, i := range at {
			want = append(want, l[i])
		}
		got := admin.Only(l, word)
		if !slices.Equal(got, want) || admin.Count(l, word) != len(want) {
			t.Errorf("P37.1: Only(%q) = %v, Count %d", word, got, admin.Count(l, word))
		}
		if len(got) > 0 {
			got[0].Word = "changed"
		}
		if !slices.Equal(l, saved) {
			t.Fatal("P2: Only changes or keeps its argument")
		}
	}
	twice := append(slices.Clone(l), l...)
	if got := admin.Only(twice, "done"); len(got) != 2 || got[0] != l[0] || got[1] != l[0] || admin.Count(twice, "done") != 2 {
		t.Error("P37.1: Only of a list with an item twice", got)
	}
	if got := admin.Only([]admin.Item{{Replica: 1}, {Replica: 2, Word: "x"}, {Replica: 3}}, ""); len(got) != 2 || got[0].Replica != 1 || got[1].Replica != 3 {
		t.Error("P37.1: Only of the empty word", got)
	}
	if len(admin.Only(nil, "done")) != 0 || admin.Count(nil, "done") != 0 {
		t.Error("P37.1: Only of nothing")
	}
}

// P37.1: Line.
func TestLine(t *testing.T) {
	cases := map[string]admin.Item{
		"1 1.2/7- reserve 3 2 1.2 undoing dead": {Replica: 1, Key: key(2, 7, true), What: reserve(2), Word: "undoing dead"},
		"3 1.2/12 mail 2 -5 sent":               {Replica: 3, Key: key(2, 12, false), What: api.Effect{Kind: 7, A: 2, N: -5}, Word: "sent"},
		"0 0.0/0 ? 0 0 ":                        {},
		"-1 1.2/1 ? 1 2 0.3 a b":                {Replica: -1, Key: key(2, 1, false), What: api.Effect{Kind: 99, A: 1, N: 2, Ref: id(0, 3)}, Word: "a b"},
	}
	for want, x := range cases {
		if got := admin.Line(x); got != want {
			t.Errorf("P37.1: Line(%v) = %q; want %q", x, got, want)
		}
	}
}

// P37.1: Waiting lists next requests, whether they are ready or not.
func TestWaiting(t *testing.T) {
	s := full(t)
	want := []api.Request{{Key: key(2, 2, false), What: mail(2)}, {Key: key(3, 2, false), What: mail(3)}, {Key: key(4, 8, true), What: mail(4)}, {Key: key(6, 1, false), What: reserve(6)}}
	if got := admin.Waiting(s); !slices.Equal(got, want) {
		t.Errorf("P37.1: Waiting = %v; want %v", got, want)
	}
	if len(admin.Waiting(state.New(1))) != 0 {
		t.Error("P37.1: Waiting of a new state")
	}
}

// P37.1, P1: a nil state, and one that was not created.
func TestUnmade(t *testing.T) {
	for _, s := range []*state.State{nil, new(state.State)} {
		if len(admin.List(s, config, 5)) != 0 || len(admin.Waiting(s)) != 0 {
			t.Error("P37.1: an unmade state has items")
		}
	}
}
