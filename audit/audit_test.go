package audit_test

import (
	"math"
	"slices"
	"testing"

	"countermand/api"
	"countermand/audit"
)

func key(seq, ord int, undo bool) api.Key {
	return api.Key{Id: api.Id{Replica: 1, Seq: seq}, Ord: ord, Undo: undo}
}

func do(seq, ord int) api.Request {
	return api.Request{Key: key(seq, ord, false), What: api.Effect{Kind: 1, A: seq, N: int64(ord)}}
}

func undo(seq, ord int) api.Request {
	q := do(seq, ord)
	q.Key.Undo = true
	return q
}

func with(q api.Request, edit func(q *api.Request)) api.Request {
	edit(&q)
	return q
}

func sent(k api.Key, times ...int) []api.Sent {
	var l []api.Sent
	for _, n := range times {
		l = append(l, api.Sent{Replica: 1, Now: n, Key: k})
	}
	return l
}

// P35.1, G1: Once, Sound, Stacked and Alike.
func TestLists(t *testing.T) {
	other := func(q *api.Request) { q.What.N++ }
	foreign := func(q *api.Request) { q.Key.Id.Replica = 2 }
	cases := []struct {
		name                        string
		l                           []api.Request
		once, sound, stacked, alike bool
	}{
		{"nothing", nil, true, true, true, true},
		{"one", []api.Request{do(1, 1)}, true, true, true, true},
		{"done and undone", []api.Request{do(1, 1), undo(1, 1)}, true, true, true, true},
		{"a stack", []api.Request{do(1, 1), do(1, 2), undo(1, 2), do(1, 3), undo(1, 3), undo(1, 1)}, true, true, true, true},
		{"two stacks", []api.Request{do(1, 1), do(2, 1), undo(1, 1), do(1, 2), undo(2, 1), undo(1, 2)}, true, true, true, true},
		{"the example", []api.Request{do(1, 1), do(1, 2), undo(1, 1)}, true, true, false, true},
		{"an undoing first", []api.Request{undo(1, 1), do(1, 1)}, true, false, false, true},
		{"an undoing alone", []api.Request{do(1, 1), undo(1, 2)}, true, false, false, true},
		{"an undoing of another change", []api.Request{do(1, 1), undo(2, 1)}, true, false, false, true},
		{"an undoing of another replica", []api.Request{do(1, 1), with(undo(1, 1), foreign)}, true, false, false, true},
		{"an undoing of something else", []api.Request{do(1, 1), with(undo(1, 1), other)}, true, false, true, true},
		{"twice", []api.Request{do(1, 1), do(1, 1)}, false, true, true, true},
		{"twice, and differently", []api.Request{do(1, 1), do(2, 1), with(do(1, 1), other)}, false, true, true, false},
		{"undone twice", []api.Request{do(1, 1), undo(1, 1), undo(1, 1)}, false, true, false, true},
		{"undone twice, and differently", []api.Request{do(1, 1), undo(1, 1), with(undo(1, 1), other)}, false, false, false, false},
		{"twice, the second time undone as the first", []api.Request{do(1, 1), with(do(1, 1), other), undo(1, 1)}, false, true, true, false},
		{"again after an undoing", []api.Request{do(1, 1), undo(1, 1), do(1, 1), undo(1, 1)}, false, true, true, true},
		{"undone in the wrong order", []api.Request{do(1, 1), do(1, 2), undo(1, 1), undo(1, 2)}, true, true, false, true},
		{"undone out of an empty stack", []api.Request{do(1, 1), undo(1, 1), undo(1, 2), do(1, 2)}, true, false, false, true},
		{"other Ords, same What", []api.Request{do(1, 1), with(do(1, 2), func(q *api.Request) { q.What.N = 1 })}, true, true, true, true},
		{"different at the end", []api.Request{do(1, 1), do(1, 2), do(1, 3), with(do(1, 3), other)}, false, true, true, false},
		{"as at first, then different", []api.Request{do(1, 1), do(1, 1), with(do(1, 1), other)}, false, true, true, false},
	}
	for _, c := range cases {
		saved := slices.Clone(c.l)
		if audit.Once(c.l) != c.once || audit.Sound(c.l) != c.sound || audit.Stacked(c.l) != c.stacked || audit.Alike(c.l) != c.alike {
			t.Errorf("P35.1: %s: Once %v, Sound %v, Stacked %v, Alike %v", c.name, audit.Once(c.l), audit.Sound(c.l), audit.Stacked(c.l), audit.Alike(c.l))
		}
		if !slices.Equal(c.l, saved) {
			t.Errorf("P2: %s: the list is changed", c.name)
		}
	}
}

// P35.1: Tries, in the order of the list.
func TestTries(t *testing.T) {
	a, b := key(1, 1, false), key(1, 1, true)
	l := slices.Concat(sent(a, 5), sent(b, 7), sent(a, 3, 9), sent(key(1, 2, false), 1), sent(key(2, 1, false), 2), sent(b, 7))
	cases := []struct {
		k    api.Key
		want []int
	}{{a, []int{5, 3, 9}}, {b, []int{7, 7}}, {key(1, 2, false), []int{1}}, {key(3, 1, false), nil}, {api.Key{}, nil}}
	for _, c := range cases {
		if got := audit.Tries(l, c.k); !slices.Equal(got, c.want) {
			t.Errorf("P35.1: Tries of %v = %v", c.k, got)
		}
	}
	if len(audit.Tries(nil, a)) != 0 {
		t.Error("P35.1: Tries of nothing")
	}
}

// P35.1, G5: Spaced, with a growing wait.
func TestSpaced(t *testing.T) {
	c := api.Config{Replicas: 1, Sectors: 1, Most: 1, Base: 3, Cap: 10}
	a, b := key(1, 1, false), key(1, 1, true)
	cases := []struct {
		l    []api.Sent
		want bool
	}{
		{nil, true}, {sent(a, 5), true}, {sent(a, 5, 8), true}, {sent(a, 5, 7), false}, {sent(a, 5, 5), false}, {sent(a, 5, 4), false},
		{sent(a, 5, 8, 14), true}, {sent(a, 5, 8, 13), false}, {sent(a, 5, 8, 14, 24), true}, {sent(a, 5, 8, 14, 23), false}, {sent(a, 5, 8, 14, 24, 34), true}, {sent(a, 5, 8, 14, 24, 33), false}, {sent(a, 0, 50, 56, 66), true}, {sent(a, 0, 50, 55, 66), false},
		{slices.Concat(sent(a, 5), sent(b, 6), sent(a, 8), sent(b, 9)), true}, {slices.Concat(sent(a, 5), sent(b, 6), sent(a, 8), sent(b, 8)), false}, {slices.Concat(sent(a, 5, 8), sent(b, 6, 7)), false}, {slices.Concat(sent(b, 6, 7), sent(a, 5, 8)), false},
		{sent(a, -5, 3), true}, {sent(a, -5, 2), false}, {sent(a, math.MinInt, math.MaxInt), true}, {sent(a, math.MaxInt, math.MaxInt), true}, {sent(a, api.MaxTime, api.MaxTime+2), false},
	}
	for i, x := range cases {
		saved := slices.Clone(x.l)
		if audit.Spaced(x.l, c) != x.want {
			t.Errorf("P35.1: Spaced %d: %v", i, !x.want)
		}
		if !slices.Equal(x.l, saved) {
			t.Error("P2: Spaced changes its argument")
		}
	}
	if !audit.Spaced(sent(a, 5, 6, 7), api.Config{Cap: 1, Base: 9}) || audit.Spaced(sent(a, 5, 6, 7), api.Config{Cap: 9}) || !audit.Spaced(sent(a, 5, 6, 8), api.Config{Cap: 9}) {
		t.Error("P35.1: Spaced with other configs")
	}
}

// P35.1, G5: Most counts each key for itself.
func TestMost(t *testing.T) {
	a, b := key(1, 1, false), key(1, 1, true)
	cases := []struct {
		l    []api.Sent
		want int
	}{{nil, 0}, {sent(a, 1), 1}, {sent(a, 1, 1, 1), 3}, {slices.Concat(sent(a, 1, 2), sent(b, 1, 2, 3), sent(key(2, 1, false), 1)), 3}, {slices.Concat(sent(a, 1), sent(b, 1), sent(a, 2)), 2}, {slices.Concat(sent(b, 1, 2, 3, 4), sent(a, 1)), 4}}
	for i, x := range cases {
		if got := audit.Most(x.l); got != x.want {
			t.Errorf("P35.1: Most %d = %d; want %d", i, got, x.want)
		}
	}
	one := sent(a, 1)
	other := sent(a, 2)
	other[0].Replica, other[0].What.N = 3, 9
	if audit.Most(append(one, other...)) != 2 || len(audit.Tries(append(one, other...), a)) != 2 {
		t.Error("P35.1: Most and Tries look at more than the key")
	}
}
