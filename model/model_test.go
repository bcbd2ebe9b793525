package model_test

import (
	"slices"
	"testing"

	"countermand/api"
	"countermand/deal"
	"countermand/fold"
	"countermand/model"
)

func id(replica, seq int) api.Id { return api.Id{Replica: replica, Seq: seq} }

func change(replica, seq, kind, a, b int, n int64, ref api.Id) api.Change {
	return api.Change{Id: id(replica, seq), Time: 5, Kind: kind, A: a, B: b, N: n, Ref: ref}
}

func request(replica, seq, ord int, undo bool, what api.Effect) api.Request {
	return api.Request{Key: api.Key{Id: id(replica, seq), Ord: ord, Undo: undo}, What: what}
}

func eff(kind, a int, n int64, ref api.Id) api.Effect {
	return api.Effect{Kind: kind, A: a, N: n, Ref: ref}
}

// changes are committed in an order that is not that of their Ids.
func changes() []api.Change {
	return []api.Change{
		change(2, 2, 2, 1, 0, 50, api.Id{}), // deposit
		change(0, 3, 1, 4, 0, 10, api.Id{}), // restock
		change(1, 1, 3, 1, 4, 3, api.Id{}),  // place
		change(0, 1, 3, 2, 4, 99, api.Id{}), // place: too much
		change(3, 1, 9, 4, 0, 2, api.Id{}),  // price
		change(0, 2, 6, 0, 0, 0, id(1, 1)),  // pay
		change(2, 1, 7, 0, 0, 0, id(1, 1)),  // ship
	}
}

func expected() []api.Request {
	o := id(1, 1)
	return []api.Request{
		request(1, 1, 1, false, eff(1, 4, 3, o)), request(1, 1, 2, false, eff(7, 1, 1, o)),
		request(2, 1, 1, false, eff(5, 4, 3, o)), request(2, 1, 2, false, eff(6, 4, 3, o)), request(2, 1, 3, false, eff(11, 4, 3, o)), request(2, 1, 4, false, eff(7, 1, 3, o)),
		request(0, 2, 1, false, eff(4, 1, 6, o)), request(0, 2, 2, false, eff(9, 1, 6, o)),
		request(2, 2, 1, false, eff(8, 1, 50, api.Id{})),
	}
}

// P34.1: Expect and Book.
func TestExpect(t *testing.T) {
	if got := model.Expect(changes()...); !slices.Equal(got, expected()) {
		t.Errorf("P34.1: Expect =\n%v; want\n%v", got, expected())
	}
	if got := model.Expect(); len(got) != 0 {
		t.Error("P34.1: the example", got)
	}
	for n := range len(changes()) + 1 {
		if !deal.Same(model.Book(changes()[:n]...), fold.Last(api.Book{}, changes()[:n]...)) {
			t.Error("P34.1: Book of", n)
		}
	}
}

// P34.1: requests with equal keys stay in the order of the changes.
func TestExpectEqual(t *testing.T) {
	l := []api.Change{change(0, 1, 2, 3, 0, 7, api.Id{}), change(0, 2, 2, 1, 0, 1, api.Id{}), change(0, 1, 2, 2, 0, 5, api.Id{}), change(0, 1, 2, 1, 0, 6, api.Id{})}
	want := []api.Request{request(0, 1, 1, false, eff(8, 3, 7, api.Id{})), request(0, 1, 1, false, eff(8, 2, 5, api.Id{})), request(0, 1, 1, false, eff(8, 1, 6, api.Id{})), request(0, 2, 1, false, eff(8, 1, 1, api.Id{}))}
	if got := model.Expect(l...); !slices.Equal(got, want) {
		t.Errorf("P34.1: Expect of equal Ids = %v; want %v", got, want)
	}
}

var (
	a = eff(1, 1, 1, api.Id{})
	b = eff(4, 2, 2, api.Id{})
	c = eff(7, 3, 3, api.Id{})
)

// P34.1: the net.
func TestNet(t *testing.T) {
	cases := []struct{ l, want []api.Request }{
		{nil, nil},
		{[]api.Request{request(0, 1, 1, false, a)}, []api.Request{request(0, 1, 1, false, a)}},
		{[]api.Request{request(0, 1, 5, false, a), request(0, 1, 9, false, b)}, []api.Request{request(0, 1, 1, false, a), request(0, 1, 2, false, b)}},
		{[]api.Request{request(0, 1, 9, false, a), request(0, 1, 5, false, b)}, []api.Request{request(0, 1, 1, false, a), request(0, 1, 2, false, b)}},
		{[]api.Request{request(0, 1, 1, false, a), request(0, 1, 1, true, a)}, nil},
		{[]api.Request{request(0, 1, 1, true, a), request(0, 1, 1, false, a)}, []api.Request{request(0, 1, 1, false, a)}},
		{[]api.Request{request(0, 1, 1, true, a)}, nil},
		{[]api.Request{request(0, 1, 1, false, a), request(0, 1, 2, false, b), request(0, 1, 1, true, a), request(0, 1, 3, false, c)}, []api.Request{request(0, 1, 1, false, b), request(0, 1, 2, false, c)}},
		{[]api.Request{request(0, 1, 1, false, a), request(0, 2, 1, true, a), request(1, 1, 1, true, a), request(0, 1, 2, true, a)}, []api.Request{request(0, 1, 1, false, a)}},
		{[]api.Request{request(0, 1, 1, false, a), request(0, 1, 1, true, b)}, nil},
		{[]api.Request{request(0, 1, 1, false, a), request(0, 1, 1, true, a), request(0, 1, 1, false, b)}, []api.Request{request(0, 1, 1, false, b)}},
		{[]api.Request{request(2, 2, 7, false, c), request(1, 2, 1, false, a), request(3, 1, 2, false, b), request(2, 2, 3, false, a), request(0, 9, 1, false, a)}, []api.Request{request(3, 1, 1, false, b), request(1, 2, 1, false, a), request(2, 2, 1, false, c), request(2, 2, 2, false, a), request(0, 9, 1, false, a)}},
	}
	for i, x := range cases {
		saved := slices.Clone(x.l)
		if got := model.Net(x.l); !slices.Equal(got, x.want) {
			t.Errorf("P34.1: Net %d = %v; want %v", i, got, x.want)
		}
		if !slices.Equal(x.l, saved) {
			t.Errorf("P2: Net %d changes its argument", i)
		}
	}
}

// P34.1: Matches compares the net with what is expected.
func TestMatches(t *testing.T) {
	l := expected()
	shuffled := []api.Request{l[8], l[2], l[0], l[6], l[3], l[4], l[1], l[5], l[7]}
	if !model.Matches(l, changes()) || !model.Matches(shuffled, changes()) || !model.Matches(nil, nil) {
		t.Error("P34.1: Matches")
	}
	renumbered := slices.Clone(l)
	for i := range renumbered {
		renumbered[i].Key.Ord += 4
	}
	detour := append([]api.Request{request(1, 1, 1, false, a), request(1, 1, 1, true, a)}, renumbered...)
	if !model.Matches(detour, changes()) {
		t.Error("P34.1: Matches after an undoing")
	}
	swapped := slices.Clone(l)
	swapped[2], swapped[3] = swapped[3], swapped[2]
	other := slices.Clone(l)
	other[4].What.N++
	foreign := slices.Clone(l)
	foreign[4].Key.Id.Replica++
	for i, x := range [][]api.Request{nil, l[1:], l[:8], append(slices.Clone(l), l[0]), swapped, other, foreign, append(slices.Clone(l), request(1, 1, 1, true, a))} {
		if model.Matches(x, changes()) {
			t.Errorf("P34.1: Matches wrong list %d", i)
		}
	}
	if model.Matches(nil, changes()) || model.Matches(l, nil) || model.Matches(l, changes()[:6]) {
		t.Error("P34.1: Matches other changes")
	}
}

// P34.1: Allowed examines deferred effects only.
func TestAllowed(t *testing.T) {
	l := expected()
	far := slices.Clone(l)
	for i := range far {
		far[i].Key.Ord = 200 - i
	}
	twice := append(slices.Clone(l), l...)
	for i, x := range [][]api.Request{nil, l, far, l[3:5], twice, {request(0, 7, 1, false, a), request(0, 7, 1, true, a), request(3, 9, 1, false, eff(6, 1, 1, api.Id{}))}} {
		if !model.Allowed(x, changes()) {
			t.Errorf("P34.1: list %d is not Allowed", i)
		}
	}
	for _, i := range []int{1, 4, 5, 7, 8} {
		for j, edit := range []func(q *api.Request){func(q *api.Request) { q.Key.Id.Seq++ }, func(q *api.Request) { q.Key.Id.Replica += 4 }, func(q *api.Request) { q.What.N++ }, func(q *api.Request) { q.What.A++ }, func(q *api.Request) { q.What.Ref.Seq += 7 }} {
			x := slices.Clone(l)
			edit(&x[i])
			if model.Allowed(x, changes()) {
				t.Errorf("P34.1: request %d with edit %d is Allowed", i, j)
			}
		}
	}
	if model.Allowed([]api.Request{request(0, 1, 1, false, c)}, nil) || model.Allowed(l, changes()[:6]) {
		t.Error("P34.1: deferred effects without changes are Allowed")
	}
}

// P2: arguments stay as they are.
func TestMemory(t *testing.T) {
	l, x := changes(), expected()
	slices.Reverse(x)
	saved := slices.Clone(x)
	model.Expect(l...)
	model.Matches(x, l)
	model.Allowed(x, l)
	model.Book(l...).Orders[0].Qty = 99
	model.Net(x)[0].What.N = 99
	if !slices.Equal(l, changes()) || !slices.Equal(x, saved) {
		t.Error("P2: an argument is changed")
	}
}
