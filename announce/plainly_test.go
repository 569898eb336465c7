package announce_test

import (
	"slices"

	"announce/api"
)

// kinds are all there are.
var kinds = []int{api.Counter, api.Stack, api.Queue, api.Map, api.Table}

// config has the automaton for every kind: of the others it is not looked at.
func config(kind, threads, most int) api.Config {
	return api.Config{Kind: kind, Threads: threads, Cap: most, Automaton: automaton()}
}

// automaton has three codes and five states. Each entry answers another number: so an answer tells in which state the code came.
func automaton() api.Automaton {
	return api.Automaton{
		States: 5, Codes: 3,
		Next: []int{1, 2, 3, 4, 0, 1, 0, 3, 2, 2, 4, 0, 3, 1, 4},
		Out:  []int{20, 21, 22, 30, 31, 32, 40, 41, 42, 50, 51, 52, 60, 61, 62},
	}
}

// firstly is the state of a new object, as State tells it.
func firstly(kind int) []int {
	if kind == api.Counter || kind == api.Table {
		return []int{0}
	}
	return nil
}

// plainly does an operation on a state, told straight from P4: the state that is handed in stays as it is.
func plainly(kind int, state []int, op api.Op) ([]int, api.Answer) {
	switch kind {
	case api.Counter:
		return plainCounter(state, op)
	case api.Stack:
		return plainList(state, op, slices.Concat([]int{op.A}, state))
	case api.Queue:
		return plainList(state, op, slices.Concat(state, []int{op.A}))
	case api.Map:
		return plainMap(state, op)
	}
	return plainTable(state, op)
}

// plainlyAll does operations from a new object on, and tells the state that they lead to.
func plainlyAll(kind int, ops ...api.Op) []int {
	state := firstly(kind)
	for _, op := range ops {
		state, _ = plainly(kind, state, op)
	}
	return state
}

func plainCounter(state []int, op api.Op) ([]int, api.Answer) {
	switch op.Code {
	case api.Add:
		return []int{state[0] + op.A}, done(state[0] + op.A)
	case api.Sum:
		return state, done(state[0])
	}
	return state, badOp()
}

// plainList is a stack or a queue: they differ in what they are with one value more.
func plainList(state []int, op api.Op, longer []int) ([]int, api.Answer) {
	switch {
	case op.Code == 1:
		return longer, done(len(longer))
	case op.Code != 2:
		return state, badOp()
	case len(state) == 0:
		return state, empty()
	}
	return state[1:], done(state[0])
}

func plainMap(state []int, op api.Op) ([]int, api.Answer) {
	if op.Code != api.Store && op.Code != api.Load && op.Code != api.Remove {
		return state, badOp()
	}
	at := 0 // the first key that is not less
	for at < len(state) && state[at] < op.A {
		at += 2
	}
	answer, behind := none(), state[at:]
	if at < len(state) && state[at] == op.A {
		answer, behind = done(state[at+1]), state[at+2:]
	}
	switch op.Code {
	case api.Store:
		state = slices.Concat(state[:at], []int{op.A, op.B}, behind)
	case api.Remove:
		state = slices.Concat(state[:at], behind)
	}
	return state, answer
}

// plainTable is the automaton above.
func plainTable(state []int, op api.Op) ([]int, api.Answer) {
	a := automaton()
	if op.Code < 0 || op.Code >= a.Codes {
		return state, badOp()
	}
	at := state[0]*a.Codes + op.Code
	return []int{a.Next[at]}, done(a.Out[at])
}

func badOp() api.Answer { return api.Answer{Status: api.BadOp} }

func empty() api.Answer { return api.Answer{Status: api.Empty} }

func none() api.Answer { return api.Answer{Status: api.None} }
