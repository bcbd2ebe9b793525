package shelf_test

import (
	"math"
	"reflect"
	"testing"

	"countermand/api"
	"countermand/shelf"
)

const most = api.MaxAmount

func book() api.Book {
	var b api.Book
	for i := range api.MaxItems {
		b.Stock[i], b.Price[i], b.Purse[i] = int64(10+i), int64(100+i), int64(1000+i)
	}
	b.Orders = []api.Order{{Id: api.Id{Replica: 1, Seq: 2}, Qty: 3}}
	return b
}

// P13.1: the bounds of items.
func TestItem(t *testing.T) {
	for i, want := range map[int]bool{0: true, 7: true, 3: true, -1: false, 8: false, math.MaxInt: false, math.MinInt: false} {
		if shelf.Item(i) != want {
			t.Errorf("P13.1: Item(%d) = %v", i, !want)
		}
	}
}

func same(t *testing.T, name string, got, want api.Book, e, code api.Errno) {
	t.Helper()
	if code != api.OK {
		want = api.Book{}
	}
	if e != code || !reflect.DeepEqual(got, want) {
		t.Errorf("P13.1: %s: %v, %d; want %v, %d", name, got, e, want, code)
	}
}

// P13.1: Add and Take, and their errors in order.
func TestStock(t *testing.T) {
	cases := []struct {
		stock, n  int64
		add, take api.Errno
	}{
		{5, 3, api.OK, api.OK}, {5, 0, api.OK, api.OK}, {5, 5, api.OK, api.OK}, {5, 6, api.OK, api.ErrShort}, {0, 0, api.OK, api.OK}, {0, 1, api.OK, api.ErrShort},
		{5, -1, api.ErrRange, api.ErrRange}, {5, math.MinInt64, api.ErrRange, api.ErrRange}, {5, most + 1, api.ErrRange, api.ErrRange}, {5, math.MaxInt64, api.ErrRange, api.ErrRange},
		{0, most, api.OK, api.ErrShort}, {1, most, api.ErrOver, api.ErrShort}, {most, 1, api.ErrOver, api.OK}, {most, 0, api.OK, api.OK}, {most - 1, 1, api.OK, api.OK}, {most, most, api.ErrOver, api.OK},
		{math.MaxInt64, 1, api.ErrOver, api.OK}, {math.MaxInt64, most, api.ErrOver, api.OK}, {-5, 3, api.OK, api.ErrShort}, {math.MinInt64, 1, api.OK, api.ErrShort},
	}
	for _, c := range cases {
		for _, i := range []int{0, 4, 7} {
			b := book()
			b.Stock[i] = c.stock
			more, less := b, b
			more.Stock[i] += c.n
			less.Stock[i] -= c.n
			got, e := shelf.Add(b, i, c.n)
			same(t, "Add", got, more, e, c.add)
			got, e = shelf.Take(b, i, c.n)
			same(t, "Take", got, less, e, c.take)
			if shelf.Has(b, i, c.n) != (c.take == api.OK) {
				t.Errorf("P13.1: Has(%d of %d)", c.n, c.stock)
			}
		}
	}
	if _, e := shelf.Take(api.Book{}, 0, 1); e != api.ErrShort {
		t.Error("P13.1: the example", e)
	}
}

// P13.1: Price and its bounds.
func TestPrice(t *testing.T) {
	for n, want := range map[int64]api.Errno{0: api.OK, 5: api.OK, api.MaxPrice: api.OK, api.MaxPrice + 1: api.ErrRange, -1: api.ErrRange, math.MaxInt64: api.ErrRange, math.MinInt64: api.ErrRange} {
		for _, i := range []int{0, 7} {
			b := book()
			b.Price[i] = n
			got, e := shelf.Price(book(), i, n)
			same(t, "Price", got, b, e, want)
		}
	}
}

// P13.1: Cost and its errors.
func TestCost(t *testing.T) {
	cases := []struct {
		price, n, want int64
		code           api.Errno
	}{
		{7, 6, 42, api.OK}, {7, 0, 0, api.OK}, {0, most, 0, api.OK}, {1, most, most, api.OK}, {1, most + 1, 0, api.ErrRange}, {1, -1, 0, api.ErrRange}, {1, math.MinInt64, 0, api.ErrRange},
		{2, most / 2, most, api.OK}, {2, most/2 + 1, 0, api.ErrOver}, {257, 4278255361, 0, api.ErrOver}, {api.MaxPrice, 1024, most, api.OK}, {api.MaxPrice, 1025, 0, api.ErrOver}, {api.MaxPrice, most, 0, api.ErrOver},
		{math.MaxInt64, 2, 0, api.ErrOver}, {1 << 62, 4, 0, api.ErrOver}, {1 << 32, 1 << 32, 0, api.ErrOver}, {-3, 5, -15, api.OK}, {math.MinInt64, 2, 0, api.ErrOver},
	}
	for _, c := range cases {
		b := book()
		b.Price[3] = c.price
		if n, e := shelf.Cost(b, 3, c.n); n != c.want || e != c.code {
			t.Errorf("P13.1: Cost of %d at %d: %d, %d; want %d, %d", c.n, c.price, n, e, c.want, c.code)
		}
	}
}

// P13.1: no such item.
func TestNoItem(t *testing.T) {
	for _, i := range []int{-1, 8, math.MaxInt, math.MinInt} {
		for _, n := range []int64{0, 1, -1} {
			got, e := shelf.Add(book(), i, n)
			same(t, "Add", got, api.Book{}, e, api.ErrRange)
			got, e = shelf.Take(book(), i, n)
			same(t, "Take", got, api.Book{}, e, api.ErrRange)
			got, e = shelf.Price(book(), i, n)
			same(t, "Price", got, api.Book{}, e, api.ErrRange)
			if cost, e := shelf.Cost(book(), i, n); cost != 0 || e != api.ErrRange {
				t.Error("P13.1: Cost of no item", cost, e)
			}
			if shelf.Has(book(), i, n) {
				t.Error("P13.1: Has of no item")
			}
		}
	}
}

// P13.2: Add undoes Take.
func TestUndo(t *testing.T) {
	for n := int64(0); n <= 13; n++ {
		b, e := shelf.Take(book(), 3, n)
		if e != api.OK {
			t.Fatal("P13.2: Take", e)
		}
		b, e = shelf.Add(b, 3, n)
		if e != api.OK || !reflect.DeepEqual(b, book()) {
			t.Errorf("P13.2: Take and Add of %d: %v", n, b)
		}
	}
}

// P2: orders are copied.
func TestMemory(t *testing.T) {
	b := book()
	for _, do := range []func() (api.Book, api.Errno){func() (api.Book, api.Errno) { return shelf.Add(b, 0, 1) }, func() (api.Book, api.Errno) { return shelf.Take(b, 0, 1) }, func() (api.Book, api.Errno) { return shelf.Price(b, 0, 1) }} {
		got, _ := do()
		got.Orders[0].Qty = 99
		if !reflect.DeepEqual(b, book()) {
			t.Fatal("P2: a booking shares memory with the argument")
		}
	}
}
