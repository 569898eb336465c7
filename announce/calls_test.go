package announce_test

import (
	"math"
	"slices"
	"testing"

	"announce/announce"
	"announce/api"
)

// P4: a counter's operations, and codes that are none.
func TestCounter(t *testing.T) {
	o := fresh(t, counter(1, 0))
	does(t, o, 0, api.Op{Code: api.Sum, A: 3, B: 4}, done(0))
	does(t, o, 0, api.Op{Code: api.Add, A: 5, B: 4}, done(5))
	does(t, o, 0, add(-7), done(-2))
	does(t, o, 0, api.Op{Code: api.Sum}, done(-2))
	for _, code := range []int{0, -1, api.Sum + 1, 9, math.MaxInt, math.MinInt} {
		does(t, o, 0, api.Op{Code: code, A: 5, B: 5}, api.Answer{Status: api.BadOp})
	}
	does(t, o, 0, add(math.MinInt), done(math.MaxInt-1))
	does(t, o, 0, add(2), done(math.MinInt))
	does(t, o, 0, add(math.MinInt), done(0))
}

// refused: all calls of a thread answer these errors, with nothing else.
func refused(t *testing.T, o *announce.Object, thread int, begin, step, answer, do api.Errno) {
	t.Helper()
	if err := o.Begin(thread, add(9)); err != begin {
		t.Errorf("P5: Begin(%d) = %d, want %d", thread, err, begin)
	}
	if how, err := o.Step(thread); how != 0 || err != step {
		t.Errorf("P1, P5: Step(%d) = %d, %d, want %d", thread, how, err, step)
	}
	if a, err := o.Answer(thread); a != (api.Answer{}) || err != answer {
		t.Errorf("P1, P5: Answer(%d) = %+v, %d, want %d", thread, a, err, answer)
	}
	if a, err := o.Do(thread, add(9)); a != (api.Answer{}) || err != do {
		t.Errorf("P1, P5: Do(%d) = %+v, %d, want %d", thread, a, err, do)
	}
}

// P1, P5: threads that are none.
func TestNoThread(t *testing.T) {
	for _, kind := range kinds {
		for _, n := range []int{1, 16, 17, api.MaxThreads} {
			o := fresh(t, config(kind, n, 0))
			for _, thread := range []int{-1, n, n + 1, math.MaxInt, math.MinInt} {
				refused(t, o, thread, api.ErrThread, api.ErrThread, api.ErrThread, api.ErrThread)
			}
			holds(t, o, firstly(kind)...)
			ordered(t, o)
			state, want := plainly(kind, firstly(kind), add(1))
			does(t, o, n-1, add(1), want)
			refused(t, o, n, api.ErrThread, api.ErrThread, api.ErrThread, api.ErrThread)
			holds(t, o, state...)
			ordered(t, o, mark(1, n-1, 0))
		}
	}
}

// P1, P5: calls that come at the wrong time, behind every step; none of them changes anything.
func TestWrongTime(t *testing.T) {
	for _, kind := range kinds {
		wrongTime(t, kind)
	}
}

func wrongTime(t *testing.T, kind int) {
	t.Helper()
	o := fresh(t, config(kind, 2, 0))
	idle := func(answer api.Errno) {
		t.Helper()
		if how, err := o.Step(0); how != 0 || err != api.ErrIdle {
			t.Fatalf("P5: Step with nothing under way = %d, %d", how, err)
		}
		if a, err := o.Answer(0); err != answer || err != api.OK && a != (api.Answer{}) {
			t.Fatalf("P5: Answer with nothing under way = %+v, %d, want %d", a, err, answer)
		}
	}
	busy := func() {
		t.Helper()
		a, err := o.Answer(0)
		b, fault := o.Do(0, add(100))
		if o.Begin(0, add(100)) != api.ErrBusy || err != api.ErrBusy || fault != api.ErrBusy || a != b || a != (api.Answer{}) {
			t.Fatalf("P1, P5: with one under way: Answer %+v, %d, Do %+v, %d", a, err, b, fault)
		}
	}
	idle(api.ErrIdle)
	state, want := firstly(kind), api.Answer{}
	for _, op := range []api.Op{{Code: 2}, add(5), {Code: 7, A: 1}} {
		state, want = plainly(kind, state, op)
		begins(t, o, 0, op)
		for range 25 {
			busy()
			moves(t, o, 0, 1)
		}
		busy()
		ends(t, o, 0, 1, want)
		idle(api.OK)
		answers(t, o, 0, want)
	}
	if _, err := o.Answer(1); err != api.ErrIdle {
		t.Errorf("P5: Answer of the other thread, which did nothing = %d", err)
	}
	holds(t, o, state...)
	ordered(t, o, mark(1, 0, 0), mark(2, 0, 1), mark(3, 0, 2))
}

// P2: what comes out may be written into, up to its spare room, and nothing is seen of it elsewhere.
func TestListsAreNew(t *testing.T) {
	listsAreNew(t, api.Counter, []int{111}, []int{113})
	listsAreNew(t, api.Stack, []int{100, 10, 1}, []int{2, 100, 10, 1})
	listsAreNew(t, api.Queue, []int{1, 10, 100}, []int{1, 10, 100, 2})
	listsAreNew(t, api.Map, []int{1, 0, 10, 0, 100, 0}, []int{1, 0, 2, 0, 10, 0, 100, 0})
	listsAreNew(t, api.Table, []int{4}, []int{1})
}

// listsAreNew: first and second are what the object holds behind its first and its second batch.
func listsAreNew(t *testing.T, kind int, first, second []int) {
	t.Helper()
	o := fresh(t, config(kind, 3, 0))
	for thread, a := range []int{1, 10, 100} {
		begins(t, o, thread, add(a))
		moves(t, o, thread, 4)
	}
	finish(o, 0)
	order := []api.Mark{mark(1, 0, 0), mark(1, 1, 0), mark(1, 2, 0)}
	marks, state := o.Order(), o.State()
	others, also := o.Order(), o.State()
	for i := range marks[:cap(marks)] {
		marks[:cap(marks)][i] = api.Mark{Batch: 77, Thread: 77, Seq: 77}
	}
	for i := range state[:cap(state)] {
		state[:cap(state)][i] = 77
	}
	if !slices.Equal(others, order) || !slices.Equal(also, first) {
		t.Errorf("P2: kind %d: the other answers have become %v, %v", kind, others, also)
	}
	holds(t, o, first...)
	ordered(t, o, order...)
	o.Do(0, add(2))
	holds(t, o, second...)
	ordered(t, o, append(order, mark(2, 0, 1))...)
}

// P2: an automaton's lists are not written into, their spare room neither, of whatever kind the object is.
func TestHandedIn(t *testing.T) {
	a := automaton()
	next, out := append(a.Next, 77), append(a.Out, 77)
	for _, kind := range kinds {
		c := config(kind, 2, 0)
		c.Automaton.Next, c.Automaton.Out = next[:15], out[:15]
		o := fresh(t, c)
		for code := range 4 {
			o.Do(code%2, api.Op{Code: code, A: 1, B: 2})
		}
	}
	if !slices.Equal(next, append(automaton().Next, 77)) || !slices.Equal(out, append(automaton().Out, 77)) {
		t.Errorf("P2: the automaton's lists have become %v, %v", next, out)
	}
}

// P2: an automaton's lists are not kept: whoever handed them in may write into them, and the object goes on by what they were.
func TestNotKept(t *testing.T) {
	c := config(api.Table, 2, 0)
	o := fresh(t, c)
	state, want := firstly(api.Table), api.Answer{}
	for k := range 60 {
		for i := range c.Automaton.Next {
			c.Automaton.Next[i], c.Automaton.Out[i] = k%5, -1-k
		}
		op := api.Op{Code: k * 7 % 3}
		state, want = plainly(api.Table, state, op)
		does(t, o, k%2, op, want)
		holds(t, o, state...)
	}
}

// P2: objects know nothing of one another.
func TestObjectsApart(t *testing.T) {
	for _, kind := range kinds {
		objectsApart(t, config(kind, 2, 3))
	}
}

func objectsApart(t *testing.T, c api.Config) {
	t.Helper()
	one, other := fresh(t, c), fresh(t, c)
	begins(t, one, 0, add(1))
	moves(t, one, 0, 4)
	first, _ := plainly(c.Kind, firstly(c.Kind), add(10))
	both, want := plainly(c.Kind, first, add(10))
	other.Do(1, add(10))
	does(t, other, 0, add(10), want)
	holds(t, one, firstly(c.Kind)...)
	ordered(t, one)
	alone, want := plainly(c.Kind, firstly(c.Kind), add(1))
	ends(t, one, 0, 22, want)
	holds(t, one, alone...)
	ordered(t, one, mark(1, 0, 0))
	holds(t, other, both...)
	ordered(t, other, mark(1, 1, 0), mark(2, 0, 0))
}
