package announce_test

import (
	"slices"

	"announce/api"
)

// kinds are those that are built.
var kinds = []int{api.Counter, api.Stack, api.Queue}

// firstly is the state of a new object, as State tells it.
func firstly(kind int) []int {
	if kind == api.Counter {
		return []int{0}
	}
	return nil
}

// plainly does an operation on a state, told straight from P4: the state that is handed in stays as it is.
func plainly(kind int, state []int, op api.Op) ([]int, api.Answer) {
	switch kind {
	case api.Counter:
		return plainCounter(state, op)
	case api.Stack:
		return plainList(state, op, slices.Concat([]int{op.A}, state))
	}
	return plainList(state, op, slices.Concat(state, []int{op.A}))
}

func plainCounter(state []int, op api.Op) ([]int, api.Answer) {
	switch op.Code {
	case api.Add:
		return []int{state[0] + op.A}, done(state[0] + op.A)
	case api.Sum:
		return state, done(state[0])
	}
	return state, badOp()
}

// plainList is a stack or a queue: they differ in what they are with one value more.
func plainList(state []int, op api.Op, longer []int) ([]int, api.Answer) {
	switch {
	case op.Code == 1:
		return longer, done(len(longer))
	case op.Code != 2:
		return state, badOp()
	case len(state) == 0:
		return state, empty()
	}
	return state[1:], done(state[0])
}

func badOp() api.Answer { return api.Answer{Status: api.BadOp} }

func empty() api.Answer { return api.Answer{Status: api.Empty} }
