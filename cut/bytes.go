package cut

import (
	"countermand/api"
	"countermand/octet"
)

// encode returns the encoding of a valid cut.
func encode(c Cut) []byte {
	out := put(nil, 1, int64(c.Count))
	for _, n := range c.Known {
		out = put(out, 2, int64(n))
	}
	out = put(out, 8, c.Book.Stock[:]...)
	out = put(out, 8, c.Book.Price[:]...)
	out = put(out, 8, c.Book.Purse[:]...)
	out = put(out, 1, int64(len(c.Book.Orders)))
	for _, o := range c.Book.Orders {
		out = put(put(out, 1, int64(o.Id.Replica)), 2, int64(o.Id.Seq))
		out = put(out, 1, int64(o.Buyer), int64(o.Item))
		out = put(put(out, 8, o.Qty, o.Cost), 1, int64(o.State))
	}
	return out
}

// put appends numbers of w bytes each.
func put(b []byte, w int, numbers ...int64) []byte {
	for _, n := range numbers {
		b = octet.Put(b, uint64(n), w)
	}
	return b
}

// decoder reads the parts of a cut; after a failure they are zero.
type decoder struct {
	*octet.Reader
}

func decode(b []byte) Cut {
	d := decoder{octet.New(b)}
	c := Cut{Count: d.small(1)}
	for i := range c.Known {
		c.Known[i] = d.small(2)
	}
	d.fill(&c.Book.Stock)
	d.fill(&c.Book.Price)
	d.fill(&c.Book.Purse)
	for range d.small(1) {
		c.Book.Orders = append(c.Book.Orders, d.order())
	}
	return c
}

func (d decoder) order() api.Order {
	return api.Order{
		Id:    api.Id{Replica: d.small(1), Seq: d.small(2)},
		Buyer: d.small(1),
		Item:  d.small(1),
		Qty:   d.large(),
		Cost:  d.large(),
		State: d.small(1),
	}
}

func (d decoder) fill(numbers *[api.MaxItems]int64) {
	for i := range numbers {
		numbers[i] = d.large()
	}
}

func (d decoder) small(w int) int {
	n, _ := d.Take(w)
	return int(n)
}

func (d decoder) large() int64 {
	n, _ := d.Take(8)
	return int64(n)
}
