package logs

import (
	"slices"

	"countermand/api"
	"countermand/booking"
	"countermand/stamp"
)

// committed keeps the changes whose order does not change any more, and what came of them.
type committed struct {
	done     []api.Change
	outcomes []api.Outcome
	base     api.Book
}

// commit executes c as the last committed change.
func (k *committed) commit(c api.Change) {
	after, o := booking.Do(k.base, c)
	k.done = append(k.done, c)
	k.outcomes = append(k.outcomes, o)
	k.base = after
}

// final returns the outcome of a committed change.
func (k *committed) final(a api.Id) (api.Outcome, bool) {
	return pick(k.done, k.outcomes, a)
}

func (k *committed) copyCommitted() *committed {
	return &committed{done: slices.Clone(k.done), outcomes: slices.Clone(k.outcomes), base: copyBook(k.base)}
}

// pick returns a copy of the outcome of the change a of l.
func pick(l []api.Change, outcomes []api.Outcome, a api.Id) (api.Outcome, bool) {
	i := stamp.Find(l, a)
	if i < 0 {
		return api.Outcome{}, false
	}
	o := outcomes[i]
	o.Effects = slices.Clone(o.Effects)
	return o, true
}

func copyBook(b api.Book) api.Book {
	b.Orders = slices.Clone(b.Orders)
	return b
}
