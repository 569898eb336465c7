package plain

import (
	"slices"

	"announce/api"
)

// Queue has the row of its values as its state.
type Queue struct{}

// row is never changed. It is two lists, as a list can share its tail, but nothing can come behind its end.
type row struct {
	front *list // the first values, the first on top
	back  *list // those behind them, the last on top
}

// First is a queue without values.
func (Queue) First() row { return row{} }

// Apply does an operation on a queue's values (P4).
func (Queue) Apply(all row, op api.Op) (row, api.Answer) {
	switch op.Code {
	case api.Put:
		all.back = all.back.with(op.A)
		return all, done(all.front.size() + all.back.size())
	case api.Take:
		return all.take()
	}
	return all, badOp()
}

// take turns the back round only when the front has run out: so a value is turned once, however long the row is.
func (r row) take() (row, api.Answer) {
	if r.front == nil {
		r = row{front: r.back.reversed()}
	}
	if r.front == nil {
		return r, empty()
	}
	return row{front: r.front.tail, back: r.back}, done(r.front.head)
}

// Tell is all values, the first first (P8).
func (Queue) Tell(all row) []int {
	return slices.Concat(all.front.values(), all.back.reversed().values())
}
