package rebase_test

import (
	"slices"
	"testing"

	"countermand/api"
	"countermand/effect"
	"countermand/fold"
	"countermand/rebase"
)

func id(replica, seq int) api.Id { return api.Id{Replica: replica, Seq: seq} }

func change(replica, seq, kind, a, b int, n int64) api.Change {
	return api.Change{Id: id(replica, seq), Time: 5, Kind: kind, A: a, B: b, N: n}
}

var (
	restock = change(0, 1, 1, 3, 0, 10)
	eight   = change(1, 1, 3, 2, 3, 8)
	six     = change(2, 1, 3, 4, 3, 6)
	two     = change(3, 1, 3, 1, 3, 2)
	price   = change(0, 2, 9, 3, 0, 5)
)

func list(l ...api.Change) []api.Change { return l }

func same(a, b []rebase.Shift) bool {
	return slices.EqualFunc(a, b, func(x, y rebase.Shift) bool {
		return x.Id == y.Id && fold.Same([]api.Outcome{x.Old, x.New}, []api.Outcome{y.Old, y.New})
	})
}

// P42.1: shifts: changes of after whose outcome was another one.
func TestOf(t *testing.T) {
	b := api.Book{Stock: [8]int64{3: 1}}
	cases := []struct{ before, after []api.Change }{
		{nil, nil}, {list(restock, eight), list(restock, eight)}, {list(restock, eight, six, two), list(restock, six, eight, two)}, {list(restock, eight, six, two), list(two, six, eight, restock)},
		{list(eight), list(restock, eight, six)}, {list(restock, eight, six), list(eight)}, {list(restock, eight, six), list(six)}, {nil, list(restock, eight)}, {list(eight, restock, price), list(price, restock, eight)},
		{list(eight, restock, eight), list(restock, eight)}, {list(restock, eight), list(eight, restock, eight, six, six)}, {list(eight, six), list(restock, six, six, eight, eight)},
	}
	found := 0
	for i, x := range cases {
		_, old := fold.Run(b, x.before...)
		_, now := fold.Run(b, x.after...)
		var want []rebase.Shift
		for j, c := range x.after {
			k := slices.IndexFunc(x.before, func(d api.Change) bool { return d.Id == c.Id })
			if k >= 0 && !fold.Same(old[k:k+1], now[j:j+1]) {
				want = append(want, rebase.Shift{Id: c.Id, Old: old[k], New: now[j]})
			}
		}
		found += len(want)
		if got := rebase.Of(b, x.before, x.after); !same(got, want) {
			t.Errorf("P42.1: Of %d = %v; want %v", i, got, want)
		}
		if got := rebase.Of(b, x.before, x.before); i < 9 && len(got) != 0 {
			t.Errorf("P42.1: Of equal lists %d = %v", i, got)
		}
	}
	if found < 10 {
		t.Error("P42.1: hardly any shifts", found)
	}
	other := eight
	other.N = 3
	if got := rebase.Of(api.Book{}, list(restock, eight), list(restock, other)); len(got) != 1 || got[0].Id != eight.Id {
		t.Error("P42.1: Of changes with equal Ids", got)
	}
}

func eff(kind int, n int64) api.Effect { return api.Effect{Kind: kind, N: n} }

func outcome(code api.Errno, l ...api.Effect) api.Outcome {
	return api.Outcome{Code: code, Effects: l}
}

var a, b, c, d, later = eff(1, 1), eff(2, 2), eff(5, 3), eff(6, 4), eff(7, 5)

// shifts have what is undone, and what is requested.
var shifts = []struct {
	s          rebase.Shift
	undo, redo []api.Effect
}{
	{rebase.Shift{}, nil, nil},
	{rebase.Shift{Old: outcome(0, a, b, c)}, []api.Effect{c, b, a}, nil},
	{rebase.Shift{New: outcome(0, a, b, c)}, nil, []api.Effect{a, b, c}},
	{rebase.Shift{Old: outcome(0, a, b, c), New: outcome(0, a, b, c)}, nil, nil},
	{rebase.Shift{Old: outcome(0, a, b, c), New: outcome(0, a, d, c)}, []api.Effect{c, b}, []api.Effect{d, c}},
	{rebase.Shift{Old: outcome(0, a, b), New: outcome(0, a, b, c, d)}, nil, []api.Effect{c, d}},
	{rebase.Shift{Old: outcome(0, a, b, c, d), New: outcome(0, a, b)}, []api.Effect{d, c}, nil},
	{rebase.Shift{Old: outcome(0, later, a, later, b), New: outcome(0, a, later, c)}, []api.Effect{b}, []api.Effect{c}},
	{rebase.Shift{Old: outcome(0, a, later), New: outcome(0, a)}, nil, nil},
	{rebase.Shift{Old: outcome(0, a, b), New: outcome(api.ErrShort, a, b)}, []api.Effect{b, a}, nil},
	{rebase.Shift{Old: outcome(api.ErrShort, a, b), New: outcome(0, a, b)}, nil, []api.Effect{a, b}},
	{rebase.Shift{Old: outcome(0, a), New: outcome(0, eff(1, 2))}, []api.Effect{a}, []api.Effect{eff(1, 2)}},
}

// P42.1: Undo and Redo.
func TestUndoRedo(t *testing.T) {
	for i, x := range shifts {
		if got := rebase.Undo(x.s); !slices.Equal(got, x.undo) {
			t.Errorf("P42.1: Undo %d = %v; want %v", i, got, x.undo)
		}
		if got := rebase.Redo(x.s); !slices.Equal(got, x.redo) {
			t.Errorf("P42.1: Redo %d = %v; want %v", i, got, x.redo)
		}
	}
}

// P42.1, P42.2: Apply, on exactly the old effects and on others.
func TestApply(t *testing.T) {
	for i, x := range shifts {
		old, now := effect.Want(x.s.Old, false), effect.Want(x.s.New, false)
		if got, ok := rebase.Apply(old, x.s); !ok || !slices.Equal(got, now) {
			t.Errorf("P42.2: Apply %d = %v, %v; want %v", i, got, ok, now)
		}
		below := append([]api.Effect{later, later}, old...)
		if got, ok := rebase.Apply(below, x.s); !ok || !slices.Equal(got, append([]api.Effect{later, later}, now...)) {
			t.Errorf("P42.1: Apply %d upon others = %v, %v", i, got, ok)
		}
		if len(x.undo) == 0 {
			continue
		}
		for j, wrong := range [][]api.Effect{nil, append(slices.Clone(old), later), old[:len(old)-1], append([]api.Effect{later}, old[:len(old)-1]...)} {
			if got, ok := rebase.Apply(wrong, x.s); ok || !slices.Equal(got, wrong) {
				t.Errorf("P42.1: Apply %d to wrong stack %d = %v, %v", i, j, got, ok)
			}
		}
	}
	s := shifts[1].s
	stack := []api.Effect{b, b, c}
	if got, ok := rebase.Apply(stack, s); ok || !slices.Equal(got, []api.Effect{b, b, c}) {
		t.Error("P42.1: Apply that fails at the last effect", got, ok)
	}
}

// P42.1: Swaps counts pairs of Ids in both lists.
func TestSwaps(t *testing.T) {
	cases := []struct {
		before, after []api.Change
		want          int
	}{
		{nil, nil, 0}, {list(restock, eight, six), list(restock, eight, six), 0}, {list(restock, eight, six), list(eight, restock, six), 1}, {list(restock, eight, six), list(six, eight, restock), 3}, {list(restock, eight, six, two), list(two, restock, eight, six), 3},
		{list(restock, eight, six), list(six, two, restock), 1}, {list(restock), list(eight), 0}, {list(restock, eight), list(eight), 0}, {nil, list(restock, eight), 0},
		{list(restock, eight, restock), list(restock, eight), 0}, {list(restock, eight), list(restock, eight, restock), 0}, {list(restock, eight, restock), list(eight, restock, eight), 1}, {list(eight, eight, restock, restock), list(restock, restock, eight, eight), 1}, {list(two, restock, eight, two), list(eight, two, restock), 2},
	}
	for i, x := range cases {
		if got := rebase.Swaps(x.before, x.after); got != x.want {
			t.Errorf("P42.1: Swaps %d = %d; want %d", i, got, x.want)
		}
		if got := rebase.Swaps(x.after, x.before); got != x.want {
			t.Errorf("P42.1: Swaps %d, exchanged = %d; want %d", i, got, x.want)
		}
	}
}

// P42.1: Lost keeps order and number.
func TestLost(t *testing.T) {
	cases := []struct {
		before, after []api.Change
		want          []api.Id
	}{
		{nil, nil, nil}, {list(restock, eight), list(eight, restock), nil}, {list(restock, eight, six), list(eight), []api.Id{restock.Id, six.Id}}, {list(six, restock, six, eight), list(eight), []api.Id{six.Id, restock.Id, six.Id}}, {list(two, six), nil, []api.Id{two.Id, six.Id}}, {nil, list(two), nil},
	}
	for i, x := range cases {
		if got := rebase.Lost(x.before, x.after); !slices.Equal(got, x.want) {
			t.Errorf("P42.1: Lost %d = %v; want %v", i, got, x.want)
		}
	}
}

// P2: results are new memory, and arguments stay as they are.
func TestMemory(t *testing.T) {
	s := rebase.Shift{Old: outcome(0, a, b, c), New: outcome(0, a, d)}
	rebase.Undo(s)[0].N = 99
	rebase.Redo(s)[0].N = 99
	stack := append(make([]api.Effect, 0, 9), a, b, c)
	got, _ := rebase.Apply(stack, s)
	got[0].N = 99
	wrong, _ := rebase.Apply(stack[:1], s)
	wrong[0].N = 99
	if !slices.Equal(stack, []api.Effect{a, b, c}) || !slices.Equal(s.Old.Effects, []api.Effect{a, b, c}) || !slices.Equal(s.New.Effects, []api.Effect{a, d}) {
		t.Error("P2: an argument is changed or handed out")
	}
	twice := rebase.Of(api.Book{}, list(restock, eight), list(eight, eight))
	if len(twice) != 2 {
		t.Fatal("P42.1: Of with an Id twice", twice)
	}
	twice[0].Old.Effects[0].N = 99
	if twice[1].Old.Effects[0].N == 99 {
		t.Error("P2: two shifts share memory")
	}
}
