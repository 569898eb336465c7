package plain

import (
	"slices"
	"testing"

	"announce/api"
)

func put(a int) api.Op { return api.Op{Code: api.Put, A: a, B: 9} }

func take() api.Op { return api.Op{Code: api.Take, A: 5, B: 9} }

// P4, P8: what a queue answers and tells.
func TestQueue(t *testing.T) {
	does(t, Queue{}, []deed{
		{take(), empty(), nil},
		{put(7), done(1), []int{7}},
		{put(-8), done(2), []int{7, -8}},
		{put(0), done(3), []int{7, -8, 0}},
		{take(), done(7), []int{-8, 0}},
		{put(1), done(3), []int{-8, 0, 1}},
		{put(2), done(4), []int{-8, 0, 1, 2}},
		{take(), done(-8), []int{0, 1, 2}},
		{take(), done(0), []int{1, 2}},
		{take(), done(1), []int{2}},
		{put(3), done(2), []int{2, 3}},
		{take(), done(2), []int{3}},
		{take(), done(3), nil},
		{take(), empty(), nil},
		{put(4), done(1), []int{4}},
	}...)
}

// rowOf is a queue's state with values on both sides.
func rowOf(front, back []int) row {
	var r row
	for _, a := range slices.Backward(front) {
		r.front = r.front.with(a)
	}
	for _, a := range back {
		r.back = r.back.with(a)
	}
	return r
}

// P4: codes that a queue does not know.
func TestQueueBadCodes(t *testing.T) {
	for _, code := range badCodes() {
		for _, state := range []row{{}, rowOf([]int{1, 2}, nil), rowOf(nil, []int{1}), rowOf([]int{1}, []int{2, 3})} {
			if next, answer := (Queue{}).Apply(state, api.Op{Code: code, A: 3}); next != state || answer != badOp() {
				t.Errorf("P4: the code %d: %+v, %v", code, answer, Queue{}.Tell(next))
			}
		}
	}
}

// Ways: a queue's states are never changed, and share their tails.
func TestQueueStates(t *testing.T) {
	branches(t, Queue{}, listDoes(func(values []int, a int) []int { return slices.Concat(values, []int{a}) }))
	state := rowOf([]int{1, 2}, []int{3, 4})
	newLists(t, Queue{}, state)
	if next, _ := (Queue{}).Apply(state, put(5)); next.front != state.front || next.back.tail != state.back {
		t.Error("Put has copied the queue")
	}
	if next, _ := (Queue{}).Apply(state, take()); next.front != state.front.tail || next.back != state.back {
		t.Error("Take has copied the queue")
	}
}

// Ways: the back is turned round only when the front has run out, or each taking would be as long as the queue.
func TestQueueTurns(t *testing.T) {
	state := rowOf(nil, []int{1, 2, 3})
	state, _ = Queue{}.Apply(state, take())
	if state.back != nil || !slices.Equal(state.front.values(), []int{2, 3}) {
		t.Errorf("behind the first taking: %v in front, %v behind", state.front.values(), state.back.values())
	}
}
