package fold_test

import (
	"math"
	"reflect"
	"slices"
	"testing"

	"countermand/api"
	"countermand/booking"
	"countermand/deal"
	"countermand/effect"
	"countermand/fold"
)

func id(replica, seq int) api.Id { return api.Id{Replica: replica, Seq: seq} }

func change(seq, kind, a, b int, n int64, ref api.Id) api.Change {
	return api.Change{Id: id(0, seq), Time: seq, Kind: kind, A: a, B: b, N: n, Ref: ref}
}

func list() []api.Change {
	return []api.Change{
		change(1, 1, 2, 0, 10, api.Id{}),     // restock
		change(2, 2, 3, 0, 100, api.Id{}),    // deposit
		change(3, 3, 3, 2, 4, api.Id{}),      // place
		change(4, 3, 3, 2, 17, api.Id{}),     // place: too much
		change(5, 9, 2, 0, 5, api.Id{}),      // price
		change(6, 6, 0, 0, 0, id(0, 3)),      // pay
		change(7, 7, 0, 0, 0, id(0, 3)),      // ship
		change(8, 3, 3, 2, 1, api.Id{}),      // place
		change(9, 4, 0, 0, 2, id(0, 8)),      // amend
		change(10, 5, 0, 0, 0, id(0, 8)),     // cancel
		change(11, 8, 0, 0, 0, id(0, 3)),     // refund
		change(12, 77, 0, 0, 0, id(0, 3)),    // no kind
		change(13, 2, 9, 0, 100, id(0, 100)), // no buyer
	}
}

// P17.1: Run executes one change after the other.
func TestRun(t *testing.T) {
	b := api.Book{Stock: [8]int64{1, 2, 3}}
	var outcomes []api.Outcome
	want := b
	for i, c := range list() {
		var o api.Outcome
		want, o = booking.Do(want, c)
		outcomes = append(outcomes, o)
		got, l := fold.Run(b, list()[:i+1]...)
		if !deal.Same(got, want) || len(l) != i+1 || !fold.Same(l, outcomes) || !reflect.DeepEqual(l[i].Code, o.Code) {
			t.Errorf("P17.1: Run of %d changes", i+1)
		}
		if got := fold.Last(b, list()[:i+1]...); !deal.Same(got, want) {
			t.Errorf("P17.1: Last of %d changes", i+1)
		}
	}
	codes := []api.Errno{0, 0, 0, api.ErrShort, 0, 0, 0, 0, 0, 0, 0, api.ErrKind, api.ErrRange}
	for i, o := range outcomes {
		if o.Code != codes[i] {
			t.Errorf("P17.1: outcome %d is %d", i, o.Code)
		}
	}
}

// P17.1: Run of nothing returns the booking itself.
func TestRunNothing(t *testing.T) {
	b := api.Book{Purse: [8]int64{5}, Orders: []api.Order{{Id: id(1, 1)}}}
	got, l := fold.Run(b)
	if !deal.Same(got, b) || len(l) != 0 || !deal.Same(fold.Last(b), b) {
		t.Error("P17.1: Run of nothing")
	}
	got.Orders[0].Qty = 9
	fold.Last(b).Orders[0].Qty = 9
	if b.Orders[0].Qty != 0 {
		t.Error("P2: Run of nothing returns its argument's memory")
	}
}

// P17.1: Wants, with every number of final outcomes.
func TestWants(t *testing.T) {
	l := list()
	_, outcomes := fold.Run(api.Book{}, l...)
	for _, good := range []int{math.MinInt, -1, 0, 1, 2, 3, 7, 10, 12, 13, 14, math.MaxInt} {
		got := fold.Wants(l, good)
		if len(got) != len(l) {
			t.Fatal("P17.1: Wants has another length", len(got))
		}
		for i, o := range outcomes {
			if want := effect.Want(o, i < good); !slices.Equal(got[i], want) {
				t.Errorf("P17.1: Wants(%d) at %d = %v; want %v", good, i, got[i], want)
			}
		}
	}
	if len(fold.Wants(nil, 3)) != 0 {
		t.Error("P17.1: Wants of nothing")
	}
	if got := fold.Wants(l, 2); len(got[1]) != 1 || len(got[2]) != 1 || got[2][0].Kind != 1 {
		t.Error("P17.1: Wants(2)", got)
	}
}

// P17.1: Same examines codes, effects and the number.
func TestSame(t *testing.T) {
	make3 := func() []api.Outcome {
		return []api.Outcome{{}, {Code: api.ErrShort}, {Effects: []api.Effect{{Kind: 1, A: 2, N: 3, Ref: id(4, 5)}, {Kind: 2}}}}
	}
	if !fold.Same(make3(), make3()) || !fold.Same(nil, []api.Outcome{}) || !fold.Same([]api.Outcome{{}}, []api.Outcome{{Effects: []api.Effect{}}}) {
		t.Error("P17.1: Same of equal outcomes")
	}
	edits := []func(l []api.Outcome) []api.Outcome{
		func(l []api.Outcome) []api.Outcome { return l[:2] },
		func(l []api.Outcome) []api.Outcome { return append(l, api.Outcome{}) },
		func(l []api.Outcome) []api.Outcome { return nil },
		func(l []api.Outcome) []api.Outcome { l[0].Code = api.ErrFull; return l },
		func(l []api.Outcome) []api.Outcome { l[1].Code = api.OK; return l },
		func(l []api.Outcome) []api.Outcome { l[1].Code = api.ErrOver; return l },
		func(l []api.Outcome) []api.Outcome { l[2].Effects = l[2].Effects[:1]; return l },
		func(l []api.Outcome) []api.Outcome { l[1].Effects = []api.Effect{{}}; return l },
		func(l []api.Outcome) []api.Outcome { l[2].Effects[0].Kind++; return l },
		func(l []api.Outcome) []api.Outcome { l[2].Effects[1].A++; return l },
		func(l []api.Outcome) []api.Outcome { l[2].Effects[0].N++; return l },
		func(l []api.Outcome) []api.Outcome { l[2].Effects[1].Ref.Seq++; return l },
		func(l []api.Outcome) []api.Outcome { l[0], l[1] = l[1], l[0]; return l },
	}
	for i, edit := range edits {
		if fold.Same(edit(make3()), make3()) || fold.Same(make3(), edit(make3())) {
			t.Errorf("P17.1: Same overlooks difference %d", i)
		}
	}
}

// P17.2: a list may be cut anywhere.
func TestCut(t *testing.T) {
	l := list()
	whole, outcomes := fold.Run(api.Book{}, l...)
	for i := range len(l) + 1 {
		b, first := fold.Run(api.Book{}, l[:i]...)
		b, second := fold.Run(b, l[i:]...)
		if !deal.Same(b, whole) || !fold.Same(append(first, second...), outcomes) {
			t.Errorf("P17.2: cut at %d", i)
		}
	}
}

// P2: results are new memory.
func TestMemory(t *testing.T) {
	l := list()
	b := api.Book{Orders: []api.Order{{Id: id(2, 2), State: 4}}}
	got, outcomes := fold.Run(b, l...)
	for i := range got.Orders {
		got.Orders[i].Qty = 99
	}
	for _, o := range outcomes {
		_ = append(o.Effects, api.Effect{Kind: 99})
		for i := range o.Effects {
			o.Effects[i].N = 99
		}
	}
	again, other := fold.Run(b, l...)
	if fold.Same(outcomes, other) || deal.Same(got, again) || b.Orders[0].Qty != 0 || !slices.Equal(l, list()) {
		t.Error("P2: Run shares memory")
	}
}
