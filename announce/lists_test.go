package announce_test

import (
	"math"
	"testing"

	"announce/announce"
	"announce/api"
)

// Of both kinds: what takes; what lays is add.
func take() api.Op { return api.Op{Code: api.Pop} }

func stack(threads, most int) api.Config {
	return api.Config{Kind: api.Stack, Threads: threads, Cap: most}
}

func queue(threads, most int) api.Config {
	return api.Config{Kind: api.Queue, Threads: threads, Cap: most}
}

// P4, P8: the document's fourth example, and a stack's other edges.
func TestStack(t *testing.T) {
	o := fresh(t, stack(1, 0))
	holds(t, o)
	does(t, o, 0, api.Op{Code: api.Pop, A: 3, B: 4}, empty())
	does(t, o, 0, api.Op{Code: api.Push, A: 7, B: 4}, done(1))
	does(t, o, 0, api.Op{Code: 9}, badOp())
	does(t, o, 0, take(), done(7))
	for i, a := range []int{0, math.MinInt, -1, math.MaxInt, -1} {
		does(t, o, 0, add(a), done(i+1))
	}
	holds(t, o, -1, math.MaxInt, -1, math.MinInt, 0)
	for _, a := range []int{-1, math.MaxInt, -1} {
		does(t, o, 0, take(), done(a))
	}
	does(t, o, 0, add(5), done(3))
	holds(t, o, 5, math.MinInt, 0)
	for _, a := range []int{5, math.MinInt, 0} {
		does(t, o, 0, take(), done(a))
	}
	does(t, o, 0, take(), empty())
	holds(t, o)
}

// P4, P8: a queue's operations, with values put between the takings, and none left.
func TestQueue(t *testing.T) {
	o := fresh(t, queue(1, 0))
	holds(t, o)
	does(t, o, 0, api.Op{Code: api.Take, A: 3, B: 4}, empty())
	does(t, o, 0, api.Op{Code: api.Put, A: 7, B: 4}, done(1))
	does(t, o, 0, api.Op{Code: 9}, badOp())
	does(t, o, 0, take(), done(7))
	for i, a := range []int{0, math.MinInt, -1, math.MaxInt, -1} {
		does(t, o, 0, add(a), done(i+1))
	}
	holds(t, o, 0, math.MinInt, -1, math.MaxInt, -1)
	for _, a := range []int{0, math.MinInt, -1} {
		does(t, o, 0, take(), done(a))
	}
	does(t, o, 0, add(5), done(3))
	does(t, o, 0, add(6), done(4))
	holds(t, o, math.MaxInt, -1, 5, 6)
	for _, a := range []int{math.MaxInt, -1, 5, 6} {
		does(t, o, 0, take(), done(a))
	}
	does(t, o, 0, take(), empty())
	holds(t, o)
}

// P4, P5, P8: codes that are none, whether there is anything or not.
func TestListsBadCodes(t *testing.T) {
	for _, kind := range []int{api.Stack, api.Queue} {
		changeNothing(t, kind, []api.Op{add(1), add(2)}, 0, -1, 3, 4, 9, math.MaxInt, math.MinInt)
	}
}

// P6 to P8: the steps of an operation are as many, whatever the object holds.
func TestListsSteps(t *testing.T) {
	for _, kind := range []int{api.Stack, api.Queue} {
		takesEffect(t, kind, take(), add(5), add(6), api.Op{Code: 3}, add(7), take(), add(8), take(), take(), take(), take())
	}
}

// P7, P8: whoever comes does what all have announced.
func TestListsTogether(t *testing.T) {
	ops := []api.Op{take(), add(1), add(2), take(), {Code: 3}, add(3), take(), take(), take(), add(4)}
	doneTogether(t, api.Stack, ops, []api.Answer{empty(), done(1), done(2), done(2), badOp(), done(2), done(3), done(1), empty(), done(1)}, 4)
	doneTogether(t, api.Queue, ops, []api.Answer{empty(), done(1), done(2), done(1), badOp(), done(2), done(2), done(3), empty(), done(1)}, 4)
}

// P7: an attempt that fails has laid and taken on its copy alone.
func TestListsFailedAttempt(t *testing.T) {
	ahead := []api.Op{add(1), add(2)}
	for _, c := range []rivals{
		{api.Stack, ahead, add(8), add(9), []int{9, 8, 2, 1}, [2]api.Answer{done(3), done(4)}},
		{api.Stack, ahead, add(8), take(), []int{2, 1}, [2]api.Answer{done(3), done(8)}},
		{api.Stack, ahead, take(), add(9), []int{9, 1}, [2]api.Answer{done(2), done(2)}},
		{api.Stack, ahead, take(), take(), nil, [2]api.Answer{done(2), done(1)}},
		{api.Queue, ahead, add(8), add(9), []int{1, 2, 8, 9}, [2]api.Answer{done(3), done(4)}},
		{api.Queue, ahead, add(8), take(), []int{2, 8}, [2]api.Answer{done(3), done(1)}},
		{api.Queue, ahead, take(), add(9), []int{2, 9}, [2]api.Answer{done(1), done(2)}},
		{api.Queue, ahead, take(), take(), nil, [2]api.Answer{done(1), done(2)}},
	} {
		failsOnItsCopy(t, c)
	}
}

// P6, P8: an operation that both attempts were too slow for is done by others, once.
func TestListsOvertaken(t *testing.T) {
	isOvertaken(t, api.Stack, done(2), 10, 1, 10)
	isOvertaken(t, api.Queue, done(2), 10, 1, 10)
}

// P4, P9: many values: an operation takes no more steps for them.
func TestListsAreLong(t *testing.T) {
	const many = 20000
	for _, kind := range []int{api.Stack, api.Queue} {
		o := fresh(t, api.Config{Kind: kind, Threads: 1})
		for a := range many {
			does(t, o, 0, add(a), done(a+1))
		}
		checkLong(t, kind, o, many)
		for k := range many {
			want := k
			if kind == api.Stack {
				want = many - 1 - k
			}
			begins(t, o, 0, take())
			ends(t, o, 0, 4+1+4+1+1+3+4+1+3, done(want))
		}
		does(t, o, 0, take(), empty())
		holds(t, o)
	}
}

// checkLong: the object holds 0 to many - 1.
func checkLong(t *testing.T, kind int, o *announce.Object, many int) {
	t.Helper()
	state := o.State()
	if len(state) != many {
		t.Fatalf("P8: kind %d: State has %d values, want %d", kind, len(state), many)
	}
	for i, a := range state {
		if kind == api.Stack {
			i = many - 1 - i
		}
		if a != i {
			t.Fatalf("P8: kind %d: State has %d where %d is due", kind, a, i)
		}
	}
}
