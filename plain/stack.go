package plain

import "announce/api"

// Stack has its values as its state, the top first.
type Stack struct{}

// First is a stack without values.
func (Stack) First() *list { return nil }

// Apply does an operation on a stack's values (P4).
func (Stack) Apply(top *list, op api.Op) (*list, api.Answer) {
	switch op.Code {
	case api.Push:
		top = top.with(op.A)
		return top, done(top.size())
	case api.Pop:
		if top == nil {
			return nil, empty()
		}
		return top.tail, done(top.head)
	}
	return top, badOp()
}

// Tell is all values, the top first (P8).
func (Stack) Tell(top *list) []int { return top.values() }
