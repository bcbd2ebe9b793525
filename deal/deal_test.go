package deal_test

import (
	"math"
	"reflect"
	"slices"
	"testing"

	"countermand/api"
	"countermand/deal"
	"countermand/ident"
)

func id(replica, seq int) api.Id { return api.Id{Replica: replica, Seq: seq} }

func order(replica, seq, state int) api.Order {
	return api.Order{Id: id(replica, seq), Buyer: replica, Item: seq % 8, Qty: int64(10*seq + replica), Cost: 7, State: state}
}

func book(l ...api.Order) api.Book {
	b := api.Book{Orders: l}
	for i := range api.MaxItems {
		b.Stock[i], b.Price[i], b.Purse[i] = int64(10+i), int64(100+i), int64(1000+i)
	}
	return b
}

// P15.1: Find.
func TestFind(t *testing.T) {
	b := book(order(0, 1, 1), order(2, 1, 2), order(1, 2, 3))
	for _, o := range b.Orders {
		if got, ok := deal.Find(b, o.Id); !ok || got != o {
			t.Errorf("P15.1: Find(%v) = %v, %v", o.Id, got, ok)
		}
	}
	for _, a := range []api.Id{{}, id(0, 2), id(1, 1), id(2, 2), id(-1, 1)} {
		if got, ok := deal.Find(b, a); ok || got != (api.Order{}) {
			t.Errorf("P15.1: Find(%v) = %v, %v", a, got, ok)
		}
	}
	if _, ok := deal.Find(api.Book{}, api.Id{}); ok {
		t.Error("P15.1: Find in an empty booking")
	}
}

// P15.1, P15.2: Put inserts in the order of Ids, and replaces.
func TestPut(t *testing.T) {
	all := []api.Order{order(0, 1, 1), order(3, 1, 2), order(1, 2, 3), order(2, 2, 1), order(0, 5, 4)}
	for i, o := range all {
		rest := slices.Delete(slices.Clone(all), i, i+1)
		got := deal.Put(book(rest...), o)
		if !reflect.DeepEqual(got, book(all...)) {
			t.Errorf("P15.1: Put of %v: %v", o.Id, got.Orders)
		}
		if found, ok := deal.Find(got, o.Id); !ok || found != o {
			t.Errorf("P15.2: %v is not found", o.Id)
		}
		other := o
		other.State, other.Qty, other.Buyer = 5, -1, 3
		want := slices.Clone(all)
		want[i] = other
		if got := deal.Put(book(all...), other); !reflect.DeepEqual(got, book(want...)) {
			t.Errorf("P15.1: Put in place of %v: %v", o.Id, got.Orders)
		}
	}
	if got := deal.Put(api.Book{}, all[0]); len(got.Orders) != 1 || got.Orders[0] != all[0] {
		t.Error("P15.1: Put into an empty booking")
	}
}

// P15.1: in an unsorted list, the place is behind the last smaller Id.
func TestPutUnsorted(t *testing.T) {
	b := book(order(0, 9, 1), order(0, 2, 1), order(0, 8, 1))
	if got := deal.Put(b, order(0, 5, 1)).Orders; len(got) != 4 || got[2] != order(0, 5, 1) {
		t.Error("P15.1: Put into an unsorted list", got)
	}
	if got := deal.Put(b, order(0, 1, 1)).Orders; len(got) != 4 || got[0] != order(0, 1, 1) {
		t.Error("P15.1: Put at the beginning", got)
	}
}

// P15.1: the errors of New, in order.
func TestNew(t *testing.T) {
	var b api.Book
	for i := range api.MaxOrders {
		var e api.Errno
		before := b
		b, e = deal.New(b, order(i%4, 100-i, 1))
		if e != api.OK || len(b.Orders) != i+1 || !reflect.DeepEqual(b, deal.Put(before, order(i%4, 100-i, 1))) {
			t.Fatalf("P15.1: New %d: %d", i, e)
		}
	}
	if !slices.IsSortedFunc(b.Orders, func(x, y api.Order) int {
		if ident.Less(x.Id, y.Id) {
			return -1
		}
		return 1
	}) {
		t.Error("P15.1: the orders are not sorted")
	}
	if got, e := deal.New(b, order(0, 200, 1)); e != api.ErrCount || !reflect.DeepEqual(got, api.Book{}) {
		t.Error("P15.1: New with too many orders", e)
	}
	if got, e := deal.New(b, api.Order{Id: b.Orders[31].Id}); e != api.ErrState || !reflect.DeepEqual(got, api.Book{}) {
		t.Error("P15.1: New with a known Id comes first", e)
	}
	if _, e := deal.New(book(order(1, 1, 4)), order(1, 1, 1)); e != api.ErrState {
		t.Error("P15.1: New with the Id of a cancelled order", e)
	}
}

// P15.1: In looks for the Id first, then for the state.
func TestIn(t *testing.T) {
	b := book(order(0, 1, 1), order(2, 1, 2), order(1, 2, 3), order(1, 3, 9))
	cases := []struct {
		a      api.Id
		states []int
		want   api.Errno
	}{
		{id(0, 1), []int{1}, api.OK}, {id(0, 1), []int{2, 1}, api.OK}, {id(2, 1), []int{1, 2}, api.OK}, {id(1, 3), []int{9}, api.OK}, {id(0, 1), []int{3, 3, 1}, api.OK},
		{id(0, 1), nil, api.ErrState}, {id(0, 1), []int{2, 3, 4, 5}, api.ErrState}, {id(2, 1), []int{1}, api.ErrState},
		{id(0, 2), []int{1, 2, 3}, api.ErrNone}, {id(0, 2), nil, api.ErrNone}, {id(2, 2), []int{0}, api.ErrNone},
	}
	for _, c := range cases {
		want, _ := deal.Find(b, c.a)
		if c.want != api.OK {
			want = api.Order{}
		}
		if got, e := deal.In(b, c.a, c.states...); e != c.want || got != want {
			t.Errorf("P15.1: In(%v, %v) = %v, %d; want %d", c.a, c.states, got, e, c.want)
		}
	}
	if _, e := deal.In(api.Book{}, id(0, 1), 1); e != api.ErrNone {
		t.Error("P15.1: the example", e)
	}
}

// P15.1: Count and Held.
func TestCountHeld(t *testing.T) {
	var b api.Book
	for s := range 7 {
		for i := range s + 1 {
			b.Orders = append(b.Orders, api.Order{Id: id(i, s+1), Item: i % 2, Qty: int64(1) << (4 * s), State: s})
		}
	}
	for s := range 7 {
		if got := deal.Count(b, s); got != s+1 {
			t.Errorf("P15.1: Count(%d) = %d", s, got)
		}
	}
	if deal.Count(b, 7) != 0 || deal.Count(b, -1) != 0 || deal.Count(api.Book{}, 0) != 0 {
		t.Error("P15.1: Count of no state")
	}
	for item, want := range map[int]int64{0: 0x210, 1: 0x110, 2: 0, -1: 0, 8: 0} {
		if got := deal.Held(b, item); got != want {
			t.Errorf("P15.1: Held(%d) = %#x; want %#x", item, got, want)
		}
	}
	b = api.Book{Orders: []api.Order{{Id: id(0, 1), Item: 9, Qty: math.MaxInt64, State: 1}, {Id: id(0, 2), Item: 9, Qty: 2, State: 2}}}
	if got := deal.Held(b, 9); got != math.MinInt64+1 {
		t.Error("P15.1: Held does not wrap around", got)
	}
}

// P15.1: Same examines everything.
func TestSame(t *testing.T) {
	make2 := func() api.Book { return book(order(0, 1, 1), order(1, 2, 3)) }
	if !deal.Same(make2(), make2()) || !deal.Same(api.Book{}, api.Book{Orders: []api.Order{}}) {
		t.Error("P15.1: Same of equal bookings")
	}
	edits := []func(b *api.Book){
		func(b *api.Book) { b.Stock[0]++ }, func(b *api.Book) { b.Stock[7]++ }, func(b *api.Book) { b.Price[0]++ }, func(b *api.Book) { b.Price[7]++ }, func(b *api.Book) { b.Purse[0]++ }, func(b *api.Book) { b.Purse[7]++ },
		func(b *api.Book) { b.Orders = b.Orders[:1] }, func(b *api.Book) { b.Orders = nil }, func(b *api.Book) { b.Orders = append(b.Orders, order(0, 3, 1)) },
		func(b *api.Book) { b.Orders[0], b.Orders[1] = b.Orders[1], b.Orders[0] },
		func(b *api.Book) { b.Orders[1].Id.Seq++ }, func(b *api.Book) { b.Orders[1].Id.Replica++ }, func(b *api.Book) { b.Orders[0].Buyer++ }, func(b *api.Book) { b.Orders[1].Item++ }, func(b *api.Book) { b.Orders[0].Qty++ }, func(b *api.Book) { b.Orders[1].Cost++ }, func(b *api.Book) { b.Orders[0].State++ },
	}
	for i, edit := range edits {
		b := make2()
		edit(&b)
		if deal.Same(b, make2()) || deal.Same(make2(), b) {
			t.Errorf("P15.1: Same overlooks difference %d", i)
		}
	}
}

// P2: orders are copied, and spare capacity is not written to.
func TestMemory(t *testing.T) {
	store := []api.Order{order(0, 1, 1), order(0, 3, 1), order(0, 9, 1), order(0, 9, 1)}
	saved := slices.Clone(store)
	b := book(store[:2]...)
	b.Orders = store[:2]
	for _, o := range []api.Order{order(0, 2, 1), order(0, 4, 1), order(0, 3, 2)} {
		got := deal.Put(b, o)
		got.Orders[0].Qty = 99
		fresh, _ := deal.New(b, order(0, 7, 1))
		fresh.Orders[0].Qty = 99
		if !slices.Equal(store, saved) {
			t.Fatal("P2: Put or New changes or keeps its argument")
		}
	}
}
