package announce_test

import (
	"testing"

	"announce/api"
)

// changeNothing: codes that are none answer BadOp and change nothing, ahead of the operations and behind each of them; all may be begun (P5), and take effect (P8).
func changeNothing(t *testing.T, kind int, ops []api.Op, codes ...int) {
	t.Helper()
	o := fresh(t, config(kind, 1, 0))
	for k := range len(ops) + 1 {
		state := o.State()
		for _, code := range codes {
			does(t, o, 0, api.Op{Code: code, A: 1, B: 5}, badOp())
			holds(t, o, state...)
		}
		if n := len(o.Order()); n != (k+1)*len(codes)+k {
			t.Errorf("P8: kind %d: %d operations have taken effect, want %d", kind, n, (k+1)*len(codes)+k)
		}
		if k < len(ops) {
			o.Do(0, ops[k])
		}
	}
}

// takesEffect: operations, one behind the other: the steps of each are as many, and it takes effect with the one that publishes.
func takesEffect(t *testing.T, kind int, ops ...api.Op) {
	t.Helper()
	o := fresh(t, config(kind, 2, 0))
	state := firstly(kind)
	for k, op := range ops {
		begins(t, o, 0, op)
		moves(t, o, 0, 4+attempt(1)-1)
		holds(t, o, state...)
		next, want := plainly(kind, state, op)
		state = next
		moves(t, o, 0, 1)
		holds(t, o, state...)
		ends(t, o, 0, 3, want)
		if n := len(o.Order()); n != k+1 {
			t.Fatalf("P8: kind %d: %d operations have taken effect, want %d", kind, n, k+1)
		}
	}
}

// doneTogether: operations of as many threads (at most 16), done in one batch by one of them: each finds what those ahead of it have left.
func doneTogether(t *testing.T, kind int, ops []api.Op, want []api.Answer, state ...int) {
	t.Helper()
	o := fresh(t, config(kind, len(ops), 0))
	var marks []api.Mark
	for thread, op := range ops {
		begins(t, o, thread, op)
		moves(t, o, thread, 4)
		marks = append(marks, mark(1, thread, 0))
	}
	parts, helper := 1+2*len(ops)+1, len(ops)/2
	ends(t, o, helper, 1+parts+1+1+3*len(ops)+parts+1+3, want[helper])
	ordered(t, o, marks...)
	holds(t, o, state...)
	for thread := range ops {
		if thread != helper {
			ends(t, o, thread, 1+parts+1+1+3, want[thread])
		}
	}
	ordered(t, o, marks...)
	holds(t, o, state...)
}

// rivals are two operations of which one publishes both, and the other is too late for it; what was done ahead of them; the state behind them; their answers.
type rivals struct {
	kind        int
	ahead       []api.Op
	mine, other api.Op
	state       []int
	want        [2]api.Answer
}

// failsOnItsCopy: of what is published, and of what others do there, an attempt that fails changes nothing.
func failsOnItsCopy(t *testing.T, c rivals) {
	t.Helper()
	o := fresh(t, config(c.kind, 2, 3))
	var marks []api.Mark
	for k, op := range c.ahead {
		o.Do(0, op)
		marks = append(marks, mark(k+1, 0, k))
	}
	state := o.State()
	begins(t, o, 0, c.mine)
	begins(t, o, 1, c.other)
	moves(t, o, 1, 4)
	moves(t, o, 0, 4+attempt(2)-1)
	holds(t, o, state...)
	ends(t, o, 1, attempt(2)+3, c.want[1])
	holds(t, o, c.state...)
	ends(t, o, 0, 1+1+toCheck+3, c.want[0])
	holds(t, o, c.state...)
	n := len(c.ahead)
	ordered(t, o, append(marks, mark(n+1, 0, n), mark(n+1, 1, 0))...)
}

// isOvertaken: add 10, add 1 (whose thread is too slow twice), add 10; what add 1 answers, and the state in the end.
func isOvertaken(t *testing.T, kind int, want api.Answer, state ...int) {
	t.Helper()
	for _, late := range []bool{false, true} {
		o := fresh(t, config(kind, 2, 1))
		overtakeTwice(t, o, [2]int{0, 1}, late)
		answers(t, o, 0, want)
		holds(t, o, state...)
		ordered(t, o, mark(1, 1, 0), mark(2, 0, 0), mark(2, 1, 1))
	}
}
