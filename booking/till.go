package booking

import (
	"countermand/api"
	"countermand/deal"
	"countermand/num"
	"countermand/purse"
	"countermand/shelf"
)

// Kinds of effects.
const (
	reserve = iota + 1
	adjust
	release
	authorize
	label
	pick
	mail
	receipt
	capture
	repay
	dispatch
)

// States of orders.
const (
	placed = iota + 1
	paid
	shipped
	cancelled
	repaid
)

// Subjects of mails.
const (
	aboutPlaced = iota + 1
	aboutCancelled
	aboutShipped
)

// till executes one change; its methods panic with an api.Errno if the change fails.
type till struct {
	book    api.Book
	effects []api.Effect
}

func (t *till) do(c api.Change) {
	switch c.Kind {
	case restock:
		t.add(c.A, c.N)
		t.check(c.N >= 1, api.ErrRange)
	case deposit:
		t.give(c.A, c.N)
		t.check(c.N >= 1, api.ErrRange)
		t.want(receipt, c.A, c.N, api.Id{})
	case place:
		t.place(c)
	case amend:
		t.amend(c)
	case cancel:
		t.cancel(c)
	case pay:
		t.pay(c)
	case ship:
		t.ship(c)
	case refund:
		t.refund(c)
	case price:
		t.set(shelf.Price(t.book, c.A, c.N))
	default:
		panic(api.ErrKind)
	}
}

func (t *till) place(c api.Change) {
	t.check(purse.Buyer(c.A) && shelf.Item(c.B) && isQty(c.N), api.ErrRange)
	_, e := deal.New(t.book, api.Order{Id: c.Id})
	t.check(e == api.OK, e)
	item := t.source(c)
	t.take(item, c.N)
	t.put(api.Order{Id: c.Id, Buyer: c.A, Item: item, Qty: c.N}, placed)
	t.want(reserve, item, c.N, c.Id)
	t.want(mail, c.A, aboutPlaced, c.Id)
}

// source returns the item that a new order takes: the wanted one, or the alternative.
func (t *till) source(c api.Change) int {
	if shelf.Has(t.book, c.B, c.N) {
		return c.B
	}
	t.check(c.Ref.Seq == 1 && shelf.Has(t.book, c.Ref.Replica, c.N), api.ErrShort)
	return c.Ref.Replica
}

func (t *till) amend(c api.Change) {
	t.check(isQty(c.N), api.ErrRange)
	o := t.order(c.Ref, placed)
	if c.N > o.Qty {
		t.take(o.Item, c.N-o.Qty)
	} else if c.N < o.Qty {
		t.add(o.Item, o.Qty-c.N)
	}
	o.Qty = c.N
	t.put(o, placed)
	t.want(adjust, o.Item, c.N, o.Id)
}

func (t *till) cancel(c api.Change) {
	o := t.order(c.Ref, placed, paid)
	t.add(o.Item, o.Qty)
	t.want(release, o.Item, o.Qty, o.Id)
	if o.State == paid {
		t.give(o.Buyer, o.Cost)
		t.want(repay, o.Buyer, o.Cost, o.Id)
	}
	t.put(o, cancelled)
	t.want(mail, o.Buyer, aboutCancelled, o.Id)
}

func (t *till) pay(c api.Change) {
	o := t.order(c.Ref, placed)
	cost, e := shelf.Cost(t.book, o.Item, o.Qty)
	t.check(e == api.OK, e)
	o.Cost = cost
	t.set(purse.Pay(t.book, o.Buyer, cost))
	t.put(o, paid)
	t.want(authorize, o.Buyer, cost, o.Id)
	t.want(capture, o.Buyer, cost, o.Id)
}

func (t *till) ship(c api.Change) {
	o := t.order(c.Ref, paid)
	t.put(o, shipped)
	t.want(label, o.Item, o.Qty, o.Id)
	t.want(pick, o.Item, o.Qty, o.Id)
	t.want(dispatch, o.Item, o.Qty, o.Id)
	t.want(mail, o.Buyer, aboutShipped, o.Id)
}

func (t *till) refund(c api.Change) {
	o := t.order(c.Ref, shipped)
	t.give(o.Buyer, o.Cost)
	t.put(o, repaid)
	t.want(repay, o.Buyer, o.Cost, o.Id)
}

func (t *till) order(a api.Id, states ...int) api.Order {
	o, e := deal.In(t.book, a, states...)
	t.check(e == api.OK, e)
	return o
}

func (t *till) put(o api.Order, state int) {
	o.State = state
	t.book = deal.Put(t.book, o)
}

func (t *till) add(item int, n int64) {
	t.set(shelf.Add(t.book, item, n))
}

func (t *till) take(item int, n int64) {
	t.set(shelf.Take(t.book, item, n))
}

func (t *till) give(buyer int, n int64) {
	t.set(purse.Give(t.book, buyer, n))
}

func (t *till) set(b api.Book, e api.Errno) {
	t.check(e == api.OK, e)
	t.book = b
}

func (t *till) want(kind int, a int, n int64, ref api.Id) {
	t.effects = append(t.effects, api.Effect{Kind: kind, A: a, N: n, Ref: ref})
}

func (t *till) check(fine bool, e api.Errno) {
	if !fine {
		panic(e)
	}
}

func isQty(n int64) bool {
	return num.In(n, 1, api.MaxQty)
}
