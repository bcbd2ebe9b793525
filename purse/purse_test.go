package purse_test

import (
	"math"
	"reflect"
	"testing"

	"countermand/api"
	"countermand/purse"
)

const most = api.MaxAmount

func book() api.Book {
	var b api.Book
	for i := range api.MaxItems {
		b.Stock[i], b.Price[i], b.Purse[i] = int64(10+i), int64(100+i), int64(1000+i)
	}
	b.Orders = []api.Order{{Id: api.Id{Replica: 1, Seq: 2}, Qty: 3}}
	return b
}

// P14.1: the bounds of buyers.
func TestBuyer(t *testing.T) {
	for i, want := range map[int]bool{0: true, 7: true, 3: true, -1: false, 8: false, math.MaxInt: false, math.MinInt: false} {
		if purse.Buyer(i) != want {
			t.Errorf("P14.1: Buyer(%d) = %v", i, !want)
		}
	}
}

func same(t *testing.T, name string, got, want api.Book, e, code api.Errno) {
	t.Helper()
	if code != api.OK {
		want = api.Book{}
	}
	if e != code || !reflect.DeepEqual(got, want) {
		t.Errorf("P14.1: %s: %v, %d; want %v, %d", name, got, e, want, code)
	}
}

// P14.1, P14.2: Give and Pay, their errors in order, and the Total.
func TestGivePay(t *testing.T) {
	cases := []struct {
		amount, n int64
		give, pay api.Errno
	}{
		{5, 3, api.OK, api.OK}, {5, 0, api.OK, api.OK}, {5, 5, api.OK, api.OK}, {5, 6, api.OK, api.ErrShort}, {0, 1, api.OK, api.ErrShort},
		{5, -1, api.ErrRange, api.ErrRange}, {5, math.MinInt64, api.ErrRange, api.ErrRange}, {5, most + 1, api.ErrRange, api.ErrRange}, {5, math.MaxInt64, api.ErrRange, api.ErrRange},
		{0, most, api.OK, api.ErrShort}, {1, most, api.ErrOver, api.ErrShort}, {most, 1, api.ErrOver, api.OK}, {most, 0, api.OK, api.OK}, {most - 1, 1, api.OK, api.OK}, {most, most, api.ErrOver, api.OK},
		{math.MaxInt64, most, api.ErrOver, api.OK}, {-5, 3, api.OK, api.ErrShort}, {math.MinInt64, 1, api.OK, api.ErrShort},
	}
	for _, c := range cases {
		for _, i := range []int{0, 4, 7} {
			b := book()
			b.Purse[i] = c.amount
			more, less := b, b
			more.Purse[i] += c.n
			less.Purse[i] -= c.n
			got, e := purse.Give(b, i, c.n)
			same(t, "Give", got, more, e, c.give)
			if e == api.OK && purse.Total(got) != purse.Total(b)+c.n {
				t.Error("P14.2: Give changes Total otherwise")
			}
			got, e = purse.Pay(b, i, c.n)
			same(t, "Pay", got, less, e, c.pay)
			if e == api.OK && purse.Total(got) != purse.Total(b)-c.n {
				t.Error("P14.2: Pay changes Total otherwise")
			}
		}
	}
	b, _ := purse.Give(api.Book{}, 2, 5)
	if _, e := purse.Pay(b, 2, 6); e != api.ErrShort {
		t.Error("P14.1: the example", e)
	}
}

// P14.1: no such buyer.
func TestNoBuyer(t *testing.T) {
	for _, i := range []int{-1, 8, math.MaxInt, math.MinInt} {
		for _, n := range []int64{0, 1, -1} {
			got, e := purse.Give(book(), i, n)
			same(t, "Give", got, api.Book{}, e, api.ErrRange)
			got, e = purse.Pay(book(), i, n)
			same(t, "Pay", got, api.Book{}, e, api.ErrRange)
		}
	}
}

// P14.1: Total counts every purse once and wraps around.
func TestTotal(t *testing.T) {
	if got := purse.Total(book()); got != 8028 {
		t.Error("P14.1: Total", got)
	}
	var b api.Book
	for i := range b.Purse {
		b.Purse[i] = 1 << (4 * i)
	}
	if got := purse.Total(b); got != 0x11111111 {
		t.Errorf("P14.1: Total = %#x", got)
	}
	b = api.Book{}
	b.Purse[0], b.Purse[7] = math.MaxInt64, 2
	if got := purse.Total(b); got != math.MinInt64+1 {
		t.Error("P14.1: Total does not wrap around", got)
	}
}

// P2: orders are copied.
func TestMemory(t *testing.T) {
	b := book()
	for _, do := range []func(api.Book, int, int64) (api.Book, api.Errno){purse.Give, purse.Pay} {
		got, _ := do(b, 0, 1)
		got.Orders[0].Qty = 99
		if !reflect.DeepEqual(b, book()) {
			t.Fatal("P2: a booking shares memory with the argument")
		}
	}
}
