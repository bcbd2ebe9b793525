package image

import (
	"countermand/api"
	"countermand/chain"
	"countermand/change"
	"countermand/entry"
	"countermand/octet"
	"countermand/record"
	"countermand/state"
)

const (
	changeSize = 22
	entrySize  = 27
)

// decoder reads an image into a state; its methods panic with ErrSyntax if they cannot.
type decoder struct {
	*octet.Reader
	state *state.State
}

func (d *decoder) committed() {
	for range d.number() {
		c := d.change()
		d.do(record.Change(c))
		d.do(record.Commit(c.Id))
	}
}

func (d *decoder) tentative() {
	for range d.number() {
		d.do(record.Change(d.change()))
	}
}

func (d *decoder) chains() {
	for _, c := range d.state.Chains() {
		d.check(d.state.Load(d.chain(c.Id)))
	}
}

func (d *decoder) chain(a api.Id) chain.Chain {
	c := chain.Chain{Id: a, Made: d.number()}
	for range d.number() {
		e, ok := entry.Get(d.bytes(entrySize))
		d.check(ok)
		c.Stack = append(c.Stack, e)
	}
	return c
}

func (d *decoder) change() api.Change {
	c, e := change.Get(d.bytes(changeSize))
	d.check(e == api.OK)
	return c
}

func (d *decoder) number() int {
	n, ok := d.Take(1)
	d.check(ok)
	return int(n)
}

func (d *decoder) bytes(n int) []byte {
	b, ok := d.Bytes(n)
	d.check(ok)
	return b
}

func (d *decoder) do(r record.Record) {
	d.check(d.state.Do(r) == api.OK)
}

func (d *decoder) check(fine bool) {
	if !fine {
		panic(api.ErrSyntax)
	}
}
