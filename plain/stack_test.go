package plain

import (
	"slices"
	"testing"

	"announce/api"
)

// P4, P8: what a stack answers and tells.
func TestStack(t *testing.T) {
	push := func(a int) api.Op { return api.Op{Code: api.Push, A: a, B: 9} }
	pop := api.Op{Code: api.Pop, A: 5, B: 9}
	does(t, Stack{}, []deed{
		{pop, empty(), nil},
		{push(7), done(1), []int{7}},
		{push(-8), done(2), []int{-8, 7}},
		{pop, done(-8), []int{7}},
		{push(7), done(2), []int{7, 7}},
		{push(0), done(3), []int{0, 7, 7}},
		{pop, done(0), []int{7, 7}},
		{pop, done(7), []int{7}},
		{pop, done(7), nil},
		{pop, empty(), nil},
		{push(1), done(1), []int{1}},
	}...)
}

// P4: codes that a stack does not know.
func TestStackBadCodes(t *testing.T) {
	some := Stack{}.First().with(1).with(2)
	for _, code := range badCodes() {
		for _, state := range []*list{nil, some} {
			if next, answer := (Stack{}).Apply(state, api.Op{Code: code, A: 3}); next != state || answer != badOp() {
				t.Errorf("P4: the code %d: %+v, %v", code, answer, next.values())
			}
		}
	}
}

// Ways: a stack's states are never changed, and share their tails.
func TestStackStates(t *testing.T) {
	branches(t, Stack{}, listDoes(func(values []int, a int) []int { return slices.Concat([]int{a}, values) }))
	state := Stack{}.First().with(1).with(2)
	newLists(t, Stack{}, state)
	if next, _ := (Stack{}).Apply(state, api.Op{Code: api.Push, A: 3}); next.tail != state {
		t.Error("Push has copied the stack")
	}
	if next, _ := (Stack{}).Apply(state, api.Op{Code: api.Pop}); next != state.tail {
		t.Error("Pop has copied the stack")
	}
}
