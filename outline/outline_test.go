package outline_test

import (
	"math"
	"slices"
	"testing"

	"countermand/api"
	"countermand/outline"
)

func id(replica, seq int) api.Id { return api.Id{Replica: replica, Seq: seq} }

func is(t *testing.T, got, want string) {
	t.Helper()
	if got != want {
		t.Errorf("P39.1: %q; want %q", got, want)
	}
}

// P39.1: changes.
func TestChange(t *testing.T) {
	for i, w := range []string{"?", "restock", "deposit", "place", "amend", "cancel", "pay", "ship", "refund", "price", "?"} {
		is(t, outline.Change(api.Change{Id: id(2, 17), Time: 5, Kind: i, A: 3, B: 4, N: 6}), "2.17 @5 "+w+" 3 4 6")
		is(t, outline.Change(api.Change{Id: id(2, 17), Time: 5, Kind: i, A: 3, B: 4, N: 6, Ref: id(0, 9)}), "2.17 @5 "+w+" 3 4 6 0.9")
	}
	is(t, outline.Change(api.Change{}), "0.0 @0 ? 0 0 0")
	is(t, outline.Change(api.Change{Id: id(-1, -2), Time: -3, Kind: -4, A: -5, B: -6, N: math.MinInt64, Ref: id(1, 0)}), "-1.-2 @-3 ? -5 -6 -9223372036854775808 1.0")
	is(t, outline.Change(api.Change{Kind: math.MaxInt, N: math.MaxInt64, Ref: id(0, -1)}), "0.0 @0 ? 0 0 9223372036854775807 0.-1")
}

// P39.1: orders.
func TestOrder(t *testing.T) {
	for i, w := range []string{"?", "placed", "paid", "shipped", "cancelled", "repaid", "?"} {
		is(t, outline.Order(api.Order{Id: id(3, 1), Buyer: 2, Item: 4, Qty: 6, Cost: 8, State: i}), "3.1 "+w+" 2 4 6 8")
	}
	for _, n := range []int{-1, math.MaxInt, math.MinInt} {
		is(t, outline.Order(api.Order{State: n}), "0.0 ? 0 0 0 0")
	}
	is(t, outline.Order(api.Order{Id: id(-3, -1), Buyer: -2, Item: -4, Qty: -6, Cost: -8, State: 1}), "-3.-1 placed -2 -4 -6 -8")
}

// P39.1: bookings.
func TestBook(t *testing.T) {
	b := api.Book{Stock: [8]int64{1, 2, 3, 4, 5, 6, 7, 8}, Price: [8]int64{-1, 0, 10, 11, 12, 13, 14, 15}, Purse: [8]int64{20, 21, 22, 23, 24, 25, 26, 1 << 40}}
	want := []string{"stock 1 2 3 4 5 6 7 8", "price -1 0 10 11 12 13 14 15", "purse 20 21 22 23 24 25 26 1099511627776"}
	if got := outline.Book(b); !slices.Equal(got, want) {
		t.Errorf("P39.1: Book = %q", got)
	}
	b.Orders = []api.Order{{Id: id(1, 2), Qty: 5, State: 2}, {Id: id(0, 1)}}
	want = append(want, "1.2 paid 0 0 5 0", "0.1 ? 0 0 0 0")
	got := outline.Book(b)
	if !slices.Equal(got, want) {
		t.Errorf("P39.1: Book with orders = %q", got)
	}
	got[0] = ""
	if again := outline.Book(b); !slices.Equal(again, want) {
		t.Error("P2: Book hands out its memory")
	}
	if got := outline.Book(api.Book{}); len(got) != 3 || got[0] != "stock 0 0 0 0 0 0 0 0" {
		t.Errorf("P39.1: Book of the zero value = %q", got)
	}
}

// P39.1: answers and requests.
func TestAnswerRequest(t *testing.T) {
	is(t, outline.Answer(api.Answer{}), "ok 0 0")
	is(t, outline.Answer(api.Answer{N: 12, M: 11}), "ok 12 11")
	is(t, outline.Answer(api.Answer{Code: api.ErrFull, N: 3}), "error 10 3 0")
	is(t, outline.Answer(api.Answer{Code: -1, N: -3, M: -4}), "error -1 -3 -4")
	is(t, outline.Request(api.Request{Key: api.Key{Id: id(2, 17), Ord: 3}, What: api.Effect{Kind: 1, A: 2, N: 5, Ref: id(2, 17)}}), "2.17/3 reserve 2 5 2.17")
	is(t, outline.Request(api.Request{Key: api.Key{Id: id(2, 17), Ord: 3, Undo: true}, What: api.Effect{Kind: 11, A: 2, N: -5}}), "2.17/3- dispatch 2 -5")
	is(t, outline.Request(api.Request{}), "0.0/0 ? 0 0")
}
