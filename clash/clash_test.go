package clash_test

import (
	"math"
	"slices"
	"testing"

	"countermand/api"
	"countermand/clash"
	"countermand/deal"
	"countermand/fold"
	"countermand/stamp"
)

func id(replica, seq int) api.Id { return api.Id{Replica: replica, Seq: seq} }

func change(seq, time, kind, a, b int, n int64, ref api.Id) api.Change {
	return api.Change{Id: id(0, seq), Time: time, Kind: kind, A: a, B: b, N: n, Ref: ref}
}

func deposit(seq, time, a int, n int64) api.Change { return change(seq, time, 2, a, 0, n, api.Id{}) }

func restock(seq, time, a int, n int64) api.Change { return change(seq, time, 1, a, 0, n, api.Id{}) }

func place(seq, time, a, b int, n int64) api.Change { return change(seq, time, 3, a, b, n, api.Id{}) }

func price(seq, time, a int, n int64) api.Change { return change(seq, time, 9, a, 0, n, api.Id{}) }

func pay(seq, time int, ref api.Id) api.Change { return change(seq, time, 6, 0, 0, 0, ref) }

// book has ten of item 1, and a placed order 0.50.
func book() api.Book {
	return api.Book{Stock: [8]int64{1: 10}, Purse: [8]int64{100}, Price: [8]int64{2, 2}, Orders: []api.Order{{Id: id(0, 50), Item: 1, Qty: 2, State: 1}}}
}

// P43.1: pairs of changes that clash, and that do not.
func TestClash(t *testing.T) {
	cases := []struct {
		name string
		c, d api.Change
		want bool
	}{
		{"two deposits for one buyer", deposit(1, 1, 0, 5), deposit(2, 2, 0, 7), false},
		{"two orders for which there is enough", place(1, 1, 0, 1, 5), place(2, 2, 0, 1, 5), false},
		{"two orders for which there is not enough", place(1, 1, 0, 1, 5), place(2, 2, 0, 1, 6), true},
		{"an order and its payment", place(1, 1, 0, 1, 5), pay(2, 2, id(0, 1)), true},
		{"two prices for one item", price(1, 1, 1, 5), price(2, 2, 1, 6), true},
		{"two equal prices for one item", price(1, 1, 1, 5), price(2, 2, 1, 5), false},
		{"prices for two items", price(1, 1, 1, 5), price(2, 2, 0, 6), false},
		{"a price and a payment", price(1, 1, 1, 5), pay(2, 2, id(0, 50)), true},
		{"two payments of one order", pay(1, 1, id(0, 50)), pay(2, 2, id(0, 50)), true},
		{"a restock and an order that needs it", restock(1, 1, 2, 5), place(2, 2, 0, 2, 5), true},
		{"a restock and an order that does not", restock(1, 1, 1, 5), place(2, 2, 0, 1, 5), false},
		{"two changes that fail", place(1, 1, 0, 2, 5), place(2, 2, 0, 3, 5), false},
		{"an order that fails and a deposit", place(1, 1, 0, 2, 5), deposit(2, 2, 0, 5), false},
		{"a change and itself", deposit(1, 1, 0, 5), deposit(1, 1, 0, 5), false},
		{"an order and itself", place(1, 1, 0, 1, 5), place(1, 1, 0, 1, 5), true},
		{"no kinds", change(1, 1, 0, 0, 0, 0, api.Id{}), change(2, 2, 99, 0, 0, 0, api.Id{}), false},
		{"an amendment and an order", change(1, 1, 4, 0, 0, 9, id(0, 50)), place(2, 2, 0, 1, 5), true},
		{"a cancellation and an order that needs it", change(1, 1, 5, 0, 0, 0, id(0, 50)), place(2, 2, 0, 1, 11), true},
		{"a cancellation and an order that does not", change(1, 1, 5, 0, 0, 0, id(0, 50)), place(2, 2, 0, 1, 10), false},
	}
	for _, x := range cases {
		if clash.Clash(book(), x.c, x.d) != x.want || clash.Clash(book(), x.d, x.c) != x.want {
			t.Errorf("P43.1: Clash of %s: %v", x.name, !x.want)
		}
	}
}

// P43.1: equal bookings with different outcomes clash, and different bookings with equal outcomes.
func TestClashParts(t *testing.T) {
	full := api.Book{Stock: [8]int64{1: api.MaxAmount - 5}}
	if !clash.Clash(full, restock(1, 1, 1, 5), restock(2, 2, 1, 5)) {
		t.Error("P43.1: Clash looks at bookings only")
	}
	if !clash.Clash(book(), price(1, 1, 1, 5), price(2, 2, 1, 6)) {
		t.Error("P43.1: Clash looks at outcomes only")
	}
}

func mixed() []api.Change {
	return []api.Change{place(1, 9, 0, 1, 6), deposit(2, 3, 1, 5), place(3, 8, 0, 1, 5), price(4, 7, 1, 5), pay(5, 5, id(0, 50)), deposit(6, 2, 1, 9), restock(7, 6, 1, 3), pay(8, 1, id(0, 1)), price(9, 4, 1, 6)}
}

// P43.1: All tests every pair after b.
func TestAll(t *testing.T) {
	l := mixed()
	var want [][2]int
	for i := range l {
		for j := range l {
			if i < j && clash.Clash(book(), l[i], l[j]) {
				want = append(want, [2]int{i, j})
			}
		}
	}
	if got := clash.All(book(), l); !slices.Equal(got, want) || len(want) < 5 {
		t.Errorf("P43.1: All = %v; want %v", got, want)
	}
	if len(clash.All(book(), nil)) != 0 || len(clash.All(book(), l[:1])) != 0 {
		t.Error("P43.1: All of fewer than two changes")
	}
	twice := []api.Change{pay(1, 1, id(0, 50)), deposit(3, 3, 0, 1), pay(2, 2, id(0, 50))}
	if got := clash.All(book(), twice); !slices.Equal(got, [][2]int{{0, 2}}) {
		t.Error("P43.1: All of two payments", got)
	}
	// After the first payment, the other two would not clash; after b they do.
	three := append([]api.Change{pay(1, 1, id(0, 50))}, pay(2, 2, id(0, 50)), pay(3, 3, id(0, 50)))
	if got := clash.All(book(), three); !slices.Equal(got, [][2]int{{0, 1}, {0, 2}, {1, 2}}) {
		t.Error("P43.1: All of three payments", got)
	}
}

// P43.1: Swap.
func TestSwap(t *testing.T) {
	l := mixed()
	for _, i := range []int{math.MinInt, -1, 0, 1, 7, 8, 9, math.MaxInt} {
		want := mixed()
		if i >= 0 && i <= 7 {
			want[i], want[i+1] = want[i+1], want[i]
		}
		got := clash.Swap(l, i)
		if !slices.Equal(got, want) {
			t.Errorf("P43.1: Swap at %d = %v", i, got)
		}
		got[0].N = 77
		if !slices.Equal(l, mixed()) {
			t.Fatalf("P2: Swap at %d changes or keeps its argument", i)
		}
	}
	for _, i := range []int{-1, 0, 1} {
		if len(clash.Swap(nil, i)) != 0 || len(clash.Swap(l[:1], i)) != 1 {
			t.Error("P43.1: Swap of fewer than two changes")
		}
	}
}

// P43.1: Free executes what comes before.
func TestFree(t *testing.T) {
	l := mixed()
	for _, i := range []int{math.MinInt, -1, 8, 9, math.MaxInt} {
		if clash.Free(book(), l, i) {
			t.Errorf("P43.1: Free at %d", i)
		}
	}
	frees := 0
	for i := range 8 {
		want := !clash.Clash(fold.Last(book(), l[:i]...), l[i], l[i+1])
		if clash.Free(book(), l, i) != want {
			t.Errorf("P43.1: Free at %d = %v", i, !want)
		}
		if want {
			frees++
		}
	}
	if frees == 0 || frees == 8 {
		t.Error("P43.1: all neighbors are alike", frees)
	}
	first := []api.Change{pay(1, 1, id(0, 50)), pay(2, 2, id(0, 50)), pay(3, 3, id(0, 50))}
	if clash.Free(book(), first, 0) || !clash.Free(book(), first, 1) {
		t.Error("P43.1: Free does not execute what comes before")
	}
	if clash.Free(book(), nil, 0) || clash.Free(book(), first[:1], 0) {
		t.Error("P43.1: Free of fewer than two changes")
	}
}

// byHand sinks as the chapter says.
func byHand(b api.Book, l []api.Change) []api.Change {
	out := slices.Clone(l)
	for again := true; again; {
		again = false
		for i := range out {
			if i+1 < len(out) && stamp.Less(out[i+1], out[i]) && clash.Free(b, out, i) {
				out, again = clash.Swap(out, i), true
				break
			}
		}
	}
	return out
}

// P43.1, P43.2: Sink, and that it alters neither the booking nor an outcome.
func TestSink(t *testing.T) {
	l := mixed()
	seed := uint32(5)
	for range 40 {
		for i := range l {
			seed = seed*1664525 + 1013904223
			j := int(seed>>8) % (i + 1)
			l[i], l[j] = l[j], l[i]
		}
		saved := slices.Clone(l)
		got := clash.Sink(book(), l)
		if !slices.Equal(got, byHand(book(), l)) {
			t.Fatalf("P43.1: Sink(%v) = %v", l, got)
		}
		unaltered(t, l, got)
		for i := range l {
			if clash.Free(book(), l, i) {
				unaltered(t, l, clash.Swap(l, i))
			}
			if clash.Free(book(), got, i) && stamp.Less(got[i+1], got[i]) {
				t.Fatalf("P43.1: Sink(%v) stops too early", l)
			}
		}
		got[0].N = 77
		if !slices.Equal(l, saved) {
			t.Fatal("P2: Sink changes or keeps its argument")
		}
	}
	if len(clash.Sink(book(), nil)) != 0 || !slices.Equal(clash.Sink(book(), mixed()[:1]), mixed()[:1]) {
		t.Error("P43.1: Sink of fewer than two changes")
	}
	free := []api.Change{deposit(1, 5, 0, 1), deposit(2, 4, 0, 2), deposit(3, 9, 1, 3), deposit(4, 1, 0, 4), deposit(5, 4, 0, 2)}
	if got := clash.Sink(book(), free); !slices.Equal(got, stamp.Sorted(free...)) {
		t.Error("P43.1: Sink of changes that do not clash", got)
	}
	sorted := stamp.Sorted(free...)
	clash.Sink(book(), sorted)[0].N = 77
	if !slices.Equal(sorted, stamp.Sorted(free...)) {
		t.Error("P2: Sink of a sorted list returns its argument")
	}
	equal := []api.Change{deposit(1, 5, 0, 1), deposit(1, 5, 0, 2), deposit(1, 5, 0, 3)}
	if got := clash.Sink(book(), equal); !slices.Equal(got, equal) {
		t.Error("P43.1: Sink of equal stamps", got)
	}
}

func unaltered(t *testing.T, l, m []api.Change) {
	t.Helper()
	x, before := fold.Run(book(), l...)
	y, after := fold.Run(book(), m...)
	if !deal.Same(x, y) {
		t.Fatalf("P43.2: %v and %v lead to different bookings", l, m)
	}
	for i, c := range l {
		if j := stamp.Find(m, c.Id); !fold.Same(before[i:i+1], after[j:j+1]) {
			t.Fatalf("P43.2: %v has another outcome in %v", c, m)
		}
	}
}
