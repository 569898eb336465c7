package announce_test

import (
	"math"
	"testing"

	"announce/announce"
	"announce/api"
)

// Of both kinds: what takes; what lays is add.
func take() api.Op { return api.Op{Code: api.Pop} }

func stack(threads, most int) api.Config {
	return api.Config{Kind: api.Stack, Threads: threads, Cap: most}
}

func queue(threads, most int) api.Config {
	return api.Config{Kind: api.Queue, Threads: threads, Cap: most}
}

// P4, P8: the document's fourth example, and a stack's other edges.
func TestStack(t *testing.T) {
	o := fresh(t, stack(1, 0))
	holds(t, o)
	does(t, o, 0, api.Op{Code: api.Pop, A: 3, B: 4}, empty())
	does(t, o, 0, api.Op{Code: api.Push, A: 7, B: 4}, done(1))
	does(t, o, 0, api.Op{Code: 9}, badOp())
	does(t, o, 0, take(), done(7))
	for i, a := range []int{0, math.MinInt, -1, math.MaxInt, -1} {
		does(t, o, 0, add(a), done(i+1))
	}
	holds(t, o, -1, math.MaxInt, -1, math.MinInt, 0)
	for _, a := range []int{-1, math.MaxInt, -1} {
		does(t, o, 0, take(), done(a))
	}
	does(t, o, 0, add(5), done(3))
	holds(t, o, 5, math.MinInt, 0)
	for _, a := range []int{5, math.MinInt, 0} {
		does(t, o, 0, take(), done(a))
	}
	does(t, o, 0, take(), empty())
	holds(t, o)
}

// P4, P8: a queue's operations, with values put between the takings, and none left.
func TestQueue(t *testing.T) {
	o := fresh(t, queue(1, 0))
	holds(t, o)
	does(t, o, 0, api.Op{Code: api.Take, A: 3, B: 4}, empty())
	does(t, o, 0, api.Op{Code: api.Put, A: 7, B: 4}, done(1))
	does(t, o, 0, api.Op{Code: 9}, badOp())
	does(t, o, 0, take(), done(7))
	for i, a := range []int{0, math.MinInt, -1, math.MaxInt, -1} {
		does(t, o, 0, add(a), done(i+1))
	}
	holds(t, o, 0, math.MinInt, -1, math.MaxInt, -1)
	for _, a := range []int{0, math.MinInt, -1} {
		does(t, o, 0, take(), done(a))
	}
	does(t, o, 0, add(5), done(3))
	does(t, o, 0, add(6), done(4))
	holds(t, o, math.MaxInt, -1, 5, 6)
	for _, a := range []int{math.MaxInt, -1, 5, 6} {
		does(t, o, 0, take(), done(a))
	}
	does(t, o, 0, take(), empty())
	holds(t, o)
}

// P4: codes that are none change nothing, whether there is anything or not; every one of them may be begun (P5), and takes effect (P8).
func TestListsBadCodes(t *testing.T) {
	codes := []int{0, -1, 3, 4, 9, math.MaxInt, math.MinInt}
	for _, kind := range []int{api.Stack, api.Queue} {
		o := fresh(t, api.Config{Kind: kind, Threads: 1})
		for range 2 {
			state := o.State()
			for _, code := range codes {
				does(t, o, 0, api.Op{Code: code, A: 5, B: 5}, badOp())
				holds(t, o, state...)
			}
			o.Do(0, add(1))
		}
		if n := len(o.Order()); n != 2*len(codes)+2 {
			t.Errorf("P8: kind %d: %d operations have taken effect, want %d", kind, n, 2*len(codes)+2)
		}
	}
}

// P6 to P8: the steps of an operation are as many, whatever the object holds; it takes effect with the one that publishes.
func TestListsSteps(t *testing.T) {
	for _, kind := range []int{api.Stack, api.Queue} {
		o := fresh(t, api.Config{Kind: kind, Threads: 2})
		state := firstly(kind)
		for k, op := range []api.Op{take(), add(5), add(6), {Code: 3}, add(7), take(), add(8), take(), take(), take(), take()} {
			begins(t, o, 0, op)
			moves(t, o, 0, 4+attempt(1)-1)
			holds(t, o, state...)
			next, want := plainly(kind, state, op)
			state = next
			moves(t, o, 0, 1)
			holds(t, o, state...)
			ends(t, o, 0, 3, want)
			if n := len(o.Order()); n != k+1 {
				t.Fatalf("P8: kind %d: %d operations have taken effect, want %d", kind, n, k+1)
			}
		}
	}
}

// P7, P8: whoever comes does what all have announced, by rising threads: each finds what those ahead of it have left.
func TestListsTogether(t *testing.T) {
	ops := []api.Op{take(), add(1), add(2), take(), {Code: 3}, add(3), take(), take(), take(), add(4)}
	for _, c := range []struct {
		kind    int
		answers []api.Answer
	}{
		{api.Stack, []api.Answer{empty(), done(1), done(2), done(2), badOp(), done(2), done(3), done(1), empty(), done(1)}},
		{api.Queue, []api.Answer{empty(), done(1), done(2), done(1), badOp(), done(2), done(2), done(3), empty(), done(1)}},
	} {
		o := fresh(t, api.Config{Kind: c.kind, Threads: len(ops)})
		var marks []api.Mark
		for thread, op := range ops {
			begins(t, o, thread, op)
			moves(t, o, thread, 4)
			marks = append(marks, mark(1, thread, 0))
		}
		const parts = 1 + 2*10 + 1
		ends(t, o, 6, 1+parts+1+1+3*len(ops)+parts+1+3, c.answers[6])
		ordered(t, o, marks...)
		holds(t, o, 4)
		for thread := range ops {
			if thread != 6 {
				ends(t, o, thread, 1+parts+1+1+3, c.answers[thread])
			}
		}
		ordered(t, o, marks...)
		holds(t, o, 4)
	}
}

// P7: an attempt that fails has laid and taken on its copy alone: of what is published, and of what others lay there, nothing changes.
func TestListsFailedAttempt(t *testing.T) {
	for _, c := range []struct {
		kind  int
		mine  api.Op
		other api.Op
		state []int
		want  [2]api.Answer
	}{
		{api.Stack, add(8), add(9), []int{9, 8, 2, 1}, [2]api.Answer{done(3), done(4)}},
		{api.Stack, add(8), take(), []int{2, 1}, [2]api.Answer{done(3), done(8)}},
		{api.Stack, take(), add(9), []int{9, 1}, [2]api.Answer{done(2), done(2)}},
		{api.Stack, take(), take(), nil, [2]api.Answer{done(2), done(1)}},
		{api.Queue, add(8), add(9), []int{1, 2, 8, 9}, [2]api.Answer{done(3), done(4)}},
		{api.Queue, add(8), take(), []int{2, 8}, [2]api.Answer{done(3), done(1)}},
		{api.Queue, take(), add(9), []int{2, 9}, [2]api.Answer{done(1), done(2)}},
		{api.Queue, take(), take(), nil, [2]api.Answer{done(1), done(2)}},
	} {
		o := fresh(t, api.Config{Kind: c.kind, Threads: 2, Cap: 3})
		o.Do(0, add(1))
		o.Do(0, add(2))
		state := o.State()
		begins(t, o, 0, c.mine)
		begins(t, o, 1, c.other)
		moves(t, o, 1, 4)
		moves(t, o, 0, 4+attempt(2)-1)
		holds(t, o, state...)
		ends(t, o, 1, attempt(2)+3, c.want[1])
		holds(t, o, c.state...)
		ends(t, o, 0, 1+1+toCheck+3, c.want[0])
		holds(t, o, c.state...)
		ordered(t, o, mark(1, 0, 0), mark(2, 0, 1), mark(3, 0, 2), mark(3, 1, 0))
	}
}

// P6, P8: an operation that both attempts were too slow for is done by others, once.
func TestListsOvertaken(t *testing.T) {
	for _, c := range []struct {
		kind  int
		state []int
		want  api.Answer
	}{
		{api.Stack, []int{10, 1, 10}, done(2)},
		{api.Queue, []int{10, 1, 10}, done(2)},
	} {
		for _, late := range []bool{false, true} {
			o := fresh(t, api.Config{Kind: c.kind, Threads: 2, Cap: 1})
			overtakeTwice(t, o, [2]int{0, 1}, late)
			answers(t, o, 0, c.want)
			holds(t, o, c.state...)
			ordered(t, o, mark(1, 1, 0), mark(2, 0, 0), mark(2, 1, 1))
		}
	}
}

// P4, P9: many values: an operation takes no more steps for them.
func TestListsAreLong(t *testing.T) {
	const many = 20000
	for _, kind := range []int{api.Stack, api.Queue} {
		o := fresh(t, api.Config{Kind: kind, Threads: 1})
		for a := range many {
			does(t, o, 0, add(a), done(a+1))
		}
		checkLong(t, kind, o, many)
		for k := range many {
			want := k
			if kind == api.Stack {
				want = many - 1 - k
			}
			begins(t, o, 0, take())
			ends(t, o, 0, 4+1+4+1+1+3+4+1+3, done(want))
		}
		does(t, o, 0, take(), empty())
		holds(t, o)
	}
}

// checkLong: the object holds 0 to many - 1.
func checkLong(t *testing.T, kind int, o *announce.Object, many int) {
	t.Helper()
	state := o.State()
	if len(state) != many {
		t.Fatalf("P8: kind %d: State has %d values, want %d", kind, len(state), many)
	}
	for i, a := range state {
		if kind == api.Stack {
			i = many - 1 - i
		}
		if a != i {
			t.Fatalf("P8: kind %d: State has %d where %d is due", kind, a, i)
		}
	}
}
