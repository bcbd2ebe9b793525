package booking_test

import (
	"math"
	"reflect"
	"slices"
	"testing"

	"countermand/api"
	"countermand/booking"
	"countermand/deal"
)

const most = api.MaxAmount

func id(replica, seq int) api.Id { return api.Id{Replica: replica, Seq: seq} }

// book has an order in each state: 0.1 placed, 0.2 paid, 0.3 shipped, 0.4 cancelled, 0.5 repaid; all of buyer 2, item 3, with a Qty of 4.
func book() api.Book {
	var b api.Book
	for i := range api.MaxItems {
		b.Stock[i], b.Price[i], b.Purse[i] = int64(10+i), int64(2+i), int64(1000+i)
	}
	for s := 1; s <= 5; s++ {
		b.Orders = append(b.Orders, api.Order{Id: id(0, s), Buyer: 2, Item: 3, Qty: 4, Cost: 30, State: s})
	}
	return b
}

func change(kind, a, b int, n int64, ref api.Id) api.Change {
	return api.Change{Id: id(1, 9), Time: 7, Kind: kind, A: a, B: b, N: n, Ref: ref}
}

func effect(kind, a int, n int64, ref api.Id) api.Effect {
	return api.Effect{Kind: kind, A: a, N: n, Ref: ref}
}

func good(t *testing.T, b api.Book, c api.Change, edit func(b *api.Book), effects ...api.Effect) {
	t.Helper()
	want := b
	want.Orders = slices.Clone(b.Orders)
	edit(&want)
	got, o := booking.Do(b, c)
	if !deal.Same(got, want) || o.Code != api.OK || !slices.Equal(o.Effects, effects) {
		t.Errorf("P16.1: Do(%v):\n%v, %v; want\n%v, %v", c, got, o, want, effects)
	}
	if e := booking.May(b, c); e != api.OK {
		t.Errorf("P16.1: May(%v) = %d", c, e)
	}
}

func bad(t *testing.T, b api.Book, c api.Change, want api.Errno) {
	t.Helper()
	got, o := booking.Do(b, c)
	if !deal.Same(got, b) || o.Code != want || len(o.Effects) != 0 {
		t.Errorf("P16.1: Do(%v): %v, %v; want %d", c, got, o, want)
	}
	if e := booking.May(b, c); e != want {
		t.Errorf("P16.1: May(%v) = %d; want %d", c, e, want)
	}
}

func with(edit func(b *api.Book)) api.Book {
	b := book()
	edit(&b)
	return b
}

// P16.1: restock.
func TestRestock(t *testing.T) {
	for _, i := range []int{0, 7} {
		good(t, book(), change(1, i, 5, 6, id(0, 1)), func(b *api.Book) { b.Stock[i] += 6 })
	}
	good(t, api.Book{}, change(1, 3, 0, most, api.Id{}), func(b *api.Book) { b.Stock[3] = most })
	good(t, api.Book{}, change(1, 3, 0, 1, api.Id{}), func(b *api.Book) { b.Stock[3] = 1 })
	for _, n := range []int64{0, -1, most + 1, math.MinInt64, math.MaxInt64} {
		bad(t, book(), change(1, 1, 0, n, api.Id{}), api.ErrRange)
	}
	for _, i := range []int{-1, 8, math.MinInt} {
		bad(t, book(), change(1, i, 0, 1, api.Id{}), api.ErrRange)
	}
	bad(t, book(), change(1, 0, 0, most-9, api.Id{}), api.ErrOver)
	good(t, book(), change(1, 0, 0, most-10, api.Id{}), func(b *api.Book) { b.Stock[0] = most })
}

// P16.1: deposit, with its receipt.
func TestDeposit(t *testing.T) {
	for _, i := range []int{0, 7} {
		good(t, book(), change(2, i, 5, 6, id(0, 1)), func(b *api.Book) { b.Purse[i] += 6 }, effect(8, i, 6, api.Id{}))
	}
	good(t, api.Book{}, change(2, 3, 0, 1, api.Id{}), func(b *api.Book) { b.Purse[3] = 1 }, effect(8, 3, 1, api.Id{}))
	good(t, api.Book{}, change(2, 3, 0, most, api.Id{}), func(b *api.Book) { b.Purse[3] = most }, effect(8, 3, most, api.Id{}))
	for _, n := range []int64{0, -1, most + 1, math.MinInt64} {
		bad(t, book(), change(2, 1, 0, n, api.Id{}), api.ErrRange)
	}
	for _, i := range []int{-1, 8} {
		bad(t, book(), change(2, i, 0, 1, api.Id{}), api.ErrRange)
	}
	bad(t, book(), change(2, 0, 0, most-999, api.Id{}), api.ErrOver)
}

// P16.1: place takes the item, or the alternative.
func TestPlace(t *testing.T) {
	placed := func(item int, n int64) func(b *api.Book) {
		return func(b *api.Book) {
			b.Stock[item] -= n
			b.Orders = append(b.Orders, api.Order{Id: id(1, 9), Buyer: 6, Item: item, Qty: n, State: 1})
		}
	}
	ref := id(1, 9)
	good(t, book(), change(3, 6, 4, 5, api.Id{}), placed(4, 5), effect(1, 4, 5, ref), effect(7, 6, 1, ref))
	good(t, book(), change(3, 6, 4, 14, id(7, 1)), placed(4, 14), effect(1, 4, 14, ref), effect(7, 6, 1, ref))
	good(t, book(), change(3, 6, 4, 15, id(7, 1)), placed(7, 15), effect(1, 7, 15, ref), effect(7, 6, 1, ref))
	good(t, book(), change(3, 6, 4, 15, id(5, 1)), placed(5, 15), effect(1, 5, 15, ref), effect(7, 6, 1, ref))
	for _, a := range []api.Id{{}, id(7, 0), id(7, 2), id(7, -1), id(4, 1), id(3, 1), id(8, 1), id(-1, 1), id(255, 1), id(0, 1)} {
		bad(t, book(), change(3, 6, 4, 15, a), api.ErrShort)
	}
	bad(t, api.Book{}, change(3, 6, 4, 1, api.Id{}), api.ErrShort)
	b := with(func(b *api.Book) { b.Stock[4] = 1000 })
	good(t, b, change(3, 6, 4, 1000, api.Id{}), placed(4, 1000), effect(1, 4, 1000, ref), effect(7, 6, 1, ref))
	good(t, b, change(3, 6, 3, 1000, id(4, 1)), placed(4, 1000), effect(1, 4, 1000, ref), effect(7, 6, 1, ref))
}

// P16.1: the errors of place, in order.
func TestPlaceErrors(t *testing.T) {
	for _, c := range []api.Change{change(3, -1, 4, 5, api.Id{}), change(3, 8, 4, 5, api.Id{}), change(3, 6, -1, 5, api.Id{}), change(3, 6, 8, 5, id(7, 1)), change(3, 6, 4, 0, api.Id{}), change(3, 6, 4, -1, api.Id{}), change(3, 6, 4, 1001, id(7, 1)), change(3, 6, 4, math.MaxInt64, api.Id{})} {
		b := with(func(b *api.Book) { b.Stock[4] = most })
		bad(t, b, c, api.ErrRange)
		c.Id = id(0, 4)
		bad(t, b, c, api.ErrRange)
	}
	c := change(3, 6, 4, 15, api.Id{})
	c.Id = id(0, 4)
	bad(t, book(), c, api.ErrState)
	full := book()
	for i := len(full.Orders); i < api.MaxOrders; i++ {
		full.Orders = append(full.Orders, api.Order{Id: id(0, i+1), State: 4})
	}
	bad(t, full, change(3, 6, 4, 15, api.Id{}), api.ErrCount)
	bad(t, full, c, api.ErrState)
	full.Orders = full.Orders[:31]
	if e := booking.May(full, change(3, 6, 4, 14, api.Id{})); e != api.OK {
		t.Error("P16.1: place of the last order", e)
	}
}

// P16.1: the order of a place is inserted by Id.
func TestPlaceOrder(t *testing.T) {
	c := change(3, 6, 4, 5, api.Id{})
	c.Id = id(3, 2)
	b, _ := booking.Do(book(), c)
	if len(b.Orders) != 6 || b.Orders[2] != (api.Order{Id: id(3, 2), Buyer: 6, Item: 4, Qty: 5, State: 1}) {
		t.Error("P16.1: place", b.Orders)
	}
}

// P16.1: amend.
func TestAmend(t *testing.T) {
	for n, stock := range map[int64]int64{1: 16, 3: 14, 4: 13, 5: 12, 17: 0} {
		good(t, book(), change(4, 7, 7, n, id(0, 1)), func(b *api.Book) { b.Stock[3], b.Orders[0].Qty = stock, n }, effect(2, 3, n, id(0, 1)))
	}
	bad(t, book(), change(4, 0, 0, 18, id(0, 1)), api.ErrShort)
	b := with(func(b *api.Book) { b.Stock[3] = 2000 })
	good(t, b, change(4, 0, 0, 1000, id(0, 1)), func(b *api.Book) { b.Stock[3], b.Orders[0].Qty = 1004, 1000 }, effect(2, 3, 1000, id(0, 1)))
	b = with(func(b *api.Book) { b.Stock[3] = most - 2 })
	bad(t, b, change(4, 0, 0, 1, id(0, 1)), api.ErrOver)
	good(t, b, change(4, 0, 0, 2, id(0, 1)), func(b *api.Book) { b.Stock[3], b.Orders[0].Qty = most, 2 }, effect(2, 3, 2, id(0, 1)))
	for _, n := range []int64{0, -1, 1001, math.MinInt64, math.MaxInt64} {
		bad(t, book(), change(4, 0, 0, n, id(0, 1)), api.ErrRange)
		bad(t, book(), change(4, 0, 0, n, id(3, 3)), api.ErrRange)
		bad(t, book(), change(4, 0, 0, n, id(0, 2)), api.ErrRange)
	}
	bad(t, book(), change(4, 0, 0, 18, id(3, 3)), api.ErrNone)
	for s := 2; s <= 5; s++ {
		bad(t, book(), change(4, 0, 0, 18, id(0, s)), api.ErrState)
	}
}

// P16.1: cancel of placed and of paid orders.
func TestCancel(t *testing.T) {
	good(t, book(), change(5, 7, 7, -5, id(0, 1)), func(b *api.Book) { b.Stock[3], b.Orders[0].State = 17, 4 }, effect(3, 3, 4, id(0, 1)), effect(7, 2, 2, id(0, 1)))
	good(t, book(), change(5, 7, 7, -5, id(0, 2)), func(b *api.Book) { b.Stock[3], b.Orders[1].State, b.Purse[2] = 17, 4, 1032 }, effect(3, 3, 4, id(0, 2)), effect(10, 2, 30, id(0, 2)), effect(7, 2, 2, id(0, 2)))
	for s := 3; s <= 5; s++ {
		bad(t, book(), change(5, 0, 0, 0, id(0, s)), api.ErrState)
	}
	bad(t, book(), change(5, 0, 0, 0, id(0, 6)), api.ErrNone)
	bad(t, with(func(b *api.Book) { b.Stock[3] = most - 3 }), change(5, 0, 0, 0, id(0, 1)), api.ErrOver)
	bad(t, with(func(b *api.Book) { b.Purse[2] = most - 29 }), change(5, 0, 0, 0, id(0, 2)), api.ErrOver)
	good(t, with(func(b *api.Book) { b.Purse[2] = most - 29 }), change(5, 0, 0, 0, id(0, 1)), func(b *api.Book) { b.Stock[3], b.Orders[0].State = 17, 4 }, effect(3, 3, 4, id(0, 1)), effect(7, 2, 2, id(0, 1)))
}

// P16.1: pay.
func TestPay(t *testing.T) {
	good(t, book(), change(6, 7, 7, -5, id(0, 1)), func(b *api.Book) { b.Purse[2], b.Orders[0].State, b.Orders[0].Cost = 982, 2, 20 }, effect(4, 2, 20, id(0, 1)), effect(9, 2, 20, id(0, 1)))
	good(t, with(func(b *api.Book) { b.Price[3] = 0 }), change(6, 0, 0, 0, id(0, 1)), func(b *api.Book) { b.Orders[0].State, b.Orders[0].Cost = 2, 0 }, effect(4, 2, 0, id(0, 1)), effect(9, 2, 0, id(0, 1)))
	bad(t, with(func(b *api.Book) { b.Price[3] = 251 }), change(6, 0, 0, 0, id(0, 1)), api.ErrShort)
	bad(t, with(func(b *api.Book) { b.Price[3], b.Orders[0].Qty = api.MaxPrice, 1025 }), change(6, 0, 0, 0, id(0, 1)), api.ErrOver)
	bad(t, with(func(b *api.Book) { b.Orders[0].Item = 8 }), change(6, 0, 0, 0, id(0, 1)), api.ErrRange)
	for s := 2; s <= 5; s++ {
		bad(t, with(func(b *api.Book) { b.Price[3] = 251 }), change(6, 0, 0, 0, id(0, s)), api.ErrState)
	}
	bad(t, book(), change(6, 0, 0, 0, id(1, 1)), api.ErrNone)
}

// P16.1: ship and refund.
func TestShipRefund(t *testing.T) {
	good(t, book(), change(7, 7, 7, -5, id(0, 2)), func(b *api.Book) { b.Orders[1].State = 3 }, effect(5, 3, 4, id(0, 2)), effect(6, 3, 4, id(0, 2)), effect(11, 3, 4, id(0, 2)), effect(7, 2, 3, id(0, 2)))
	good(t, book(), change(8, 7, 7, -5, id(0, 3)), func(b *api.Book) { b.Orders[2].State, b.Purse[2] = 5, 1032 }, effect(10, 2, 30, id(0, 3)))
	bad(t, with(func(b *api.Book) { b.Purse[2] = most }), change(8, 0, 0, 0, id(0, 3)), api.ErrOver)
	for s := 1; s <= 5; s++ {
		if s != 2 {
			bad(t, book(), change(7, 0, 0, 0, id(0, s)), api.ErrState)
		}
		if s != 3 {
			bad(t, with(func(b *api.Book) { b.Purse[2] = most }), change(8, 0, 0, 0, id(0, s)), api.ErrState)
		}
	}
	bad(t, book(), change(7, 0, 0, 0, id(2, 2)), api.ErrNone)
	bad(t, book(), change(8, 0, 0, 0, id(2, 2)), api.ErrNone)
}

// P16.1: price, and kinds that there are not.
func TestPriceKind(t *testing.T) {
	for _, n := range []int64{0, 7, api.MaxPrice} {
		good(t, book(), change(9, 7, 5, n, id(0, 1)), func(b *api.Book) { b.Price[7] = n })
	}
	for _, n := range []int64{-1, api.MaxPrice + 1} {
		bad(t, book(), change(9, 7, 5, n, api.Id{}), api.ErrRange)
	}
	bad(t, book(), change(9, 8, 5, 1, api.Id{}), api.ErrRange)
	bad(t, book(), change(9, -1, 5, 1, api.Id{}), api.ErrRange)
	for _, k := range []int{0, -1, 10, 255, 257, math.MaxInt, math.MinInt} {
		bad(t, book(), change(k, 1, 1, 1, id(0, 1)), api.ErrKind)
		if booking.Name(k) != "" {
			t.Errorf("P16.1: Name(%d)", k)
		}
	}
}

// P16.1: words.
func TestWords(t *testing.T) {
	for i, w := range []string{"restock", "deposit", "place", "amend", "cancel", "pay", "ship", "refund", "price"} {
		if booking.Name(i+1) != w || booking.Kind(w) != i+1 {
			t.Errorf("P16.1: %s: %q, %d", w, booking.Name(i+1), booking.Kind(w))
		}
	}
	for _, w := range []string{"", "?", "Place", "placed", "pay ", " pay", "reserve"} {
		if booking.Kind(w) != 0 {
			t.Errorf("P16.1: Kind(%q) = %d", w, booking.Kind(w))
		}
	}
}

// P16.2: stock and held quantities together are changed only by restock and ship.
func TestBalance(t *testing.T) {
	seed := uint32(7)
	next := func(n int) int {
		seed = seed*1664525 + 1013904223
		return int(seed>>8) % n
	}
	done := map[int]int{}
	for range 30 {
		var b api.Book
		for i := range 200 {
			c := api.Change{Id: id(i%4, i/4+1), Kind: 1 + next(9), A: next(4), B: next(4), N: int64(next(12)), Ref: id(next(4), 1+next(max(i/4, 1)))}
			if len(b.Orders) > 0 && next(3) > 0 {
				c.Ref = b.Orders[next(len(b.Orders))].Id
			}
			if i < 8 {
				c.Kind, c.N = 1+i%2, 100
			}
			after, o := booking.Do(b, c)
			if o.Code == api.OK {
				done[c.Kind]++
			}
			for item := range api.MaxItems {
				was, is := b.Stock[item]+deal.Held(b, item), after.Stock[item]+deal.Held(after, item)
				if was != is && (c.Kind != 1 && c.Kind != 7 || o.Code != api.OK) {
					t.Fatalf("P16.2: %v changes the sum of item %d from %d to %d", c, item, was, is)
				}
			}
			b = after
		}
	}
	for k := 1; k <= 9; k++ {
		if done[k] == 0 {
			t.Errorf("P16.2: kind %d was never executed", k)
		}
	}
}

// P2: Do neither changes nor keeps its argument.
func TestMemory(t *testing.T) {
	for k := 0; k <= 9; k++ {
		for s := 0; s <= 5; s++ {
			b := book()
			b.Orders = append(make([]api.Order, 0, 20), b.Orders...)
			got, o := booking.Do(b, change(k, 2, 3, 2, id(0, s)))
			again, p := booking.Do(b, change(k, 2, 3, 2, id(0, s)))
			got.Orders[0].Qty = 77
			if len(o.Effects) > 0 {
				o.Effects[0].N = 77
			}
			third, q := booking.Do(b, change(k, 2, 3, 2, id(0, s)))
			if !reflect.DeepEqual(b, book()) || !deal.Same(again, third) || !slices.Equal(p.Effects, q.Effects) {
				t.Errorf("P2: Do of kind %d shares memory", k)
			}
		}
	}
}
