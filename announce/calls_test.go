package announce_test

import (
	"math"
	"slices"
	"testing"

	"announce/announce"
	"announce/api"
)

// P4: a counter's operations, and codes that are none.
func TestCounter(t *testing.T) {
	o := fresh(t, counter(1, 0))
	does(t, o, 0, api.Op{Code: api.Sum, A: 3, B: 4}, done(0))
	does(t, o, 0, api.Op{Code: api.Add, A: 5, B: 4}, done(5))
	does(t, o, 0, add(-7), done(-2))
	does(t, o, 0, api.Op{Code: api.Sum}, done(-2))
	for _, code := range []int{0, -1, api.Sum + 1, 9, math.MaxInt, math.MinInt} {
		does(t, o, 0, api.Op{Code: code, A: 5, B: 5}, api.Answer{Status: api.BadOp})
	}
	does(t, o, 0, add(math.MinInt), done(math.MaxInt-1))
	does(t, o, 0, add(2), done(math.MinInt))
	does(t, o, 0, add(math.MinInt), done(0))
}

// refused: all calls of a thread answer these errors, with nothing else.
func refused(t *testing.T, o *announce.Object, thread int, begin, step, answer, do api.Errno) {
	t.Helper()
	if err := o.Begin(thread, add(9)); err != begin {
		t.Errorf("P5: Begin(%d) = %d, want %d", thread, err, begin)
	}
	if how, err := o.Step(thread); how != 0 || err != step {
		t.Errorf("P1, P5: Step(%d) = %d, %d, want %d", thread, how, err, step)
	}
	if a, err := o.Answer(thread); a != (api.Answer{}) || err != answer {
		t.Errorf("P1, P5: Answer(%d) = %+v, %d, want %d", thread, a, err, answer)
	}
	if a, err := o.Do(thread, add(9)); a != (api.Answer{}) || err != do {
		t.Errorf("P1, P5: Do(%d) = %+v, %d, want %d", thread, a, err, do)
	}
}

// P1, P5: threads that are none.
func TestNoThread(t *testing.T) {
	for _, n := range []int{1, 16, 17, api.MaxThreads} {
		o := fresh(t, counter(n, 0))
		for _, thread := range []int{-1, n, n + 1, math.MaxInt, math.MinInt} {
			refused(t, o, thread, api.ErrThread, api.ErrThread, api.ErrThread, api.ErrThread)
		}
		tells(t, o, 0)
		does(t, o, n-1, add(1), done(1))
		refused(t, o, n, api.ErrThread, api.ErrThread, api.ErrThread, api.ErrThread)
		tells(t, o, 1, mark(1, n-1, 0))
	}
}

// P1, P5: calls that come at the wrong time, behind every step; none of them changes anything.
func TestWrongTime(t *testing.T) {
	o := fresh(t, counter(2, 0))
	idle := func(answer api.Errno) {
		t.Helper()
		if how, err := o.Step(0); how != 0 || err != api.ErrIdle {
			t.Fatalf("P5: Step with nothing under way = %d, %d", how, err)
		}
		if a, err := o.Answer(0); err != answer || err != api.OK && a != (api.Answer{}) {
			t.Fatalf("P5: Answer with nothing under way = %+v, %d, want %d", a, err, answer)
		}
	}
	busy := func() {
		t.Helper()
		a, err := o.Answer(0)
		b, fault := o.Do(0, add(100))
		if o.Begin(0, add(100)) != api.ErrBusy || err != api.ErrBusy || fault != api.ErrBusy || a != b || a != (api.Answer{}) {
			t.Fatalf("P1, P5: with one under way: Answer %+v, %d, Do %+v, %d", a, err, b, fault)
		}
	}
	idle(api.ErrIdle)
	for round := 1; round <= 3; round++ {
		begins(t, o, 0, add(5))
		for range 25 {
			busy()
			moves(t, o, 0, 1)
		}
		busy()
		ends(t, o, 0, 1, done(5*round))
		idle(api.OK)
		answers(t, o, 0, done(5*round))
	}
	if _, err := o.Answer(1); err != api.ErrIdle {
		t.Errorf("P5: Answer of the other thread, which did nothing = %d", err)
	}
	tells(t, o, 15, mark(1, 0, 0), mark(2, 0, 1), mark(3, 0, 2))
}

// P2: what comes out may be written into, up to its spare room, and nothing is seen of it elsewhere.
func TestListsAreNew(t *testing.T) {
	o := fresh(t, counter(2, 0))
	begins(t, o, 1, add(10))
	moves(t, o, 1, 4)
	does(t, o, 0, add(1), done(1))
	marks, state := o.Order(), o.State()
	others, also := o.Order(), o.State()
	for i := range marks[:cap(marks)] {
		marks[:cap(marks)][i] = api.Mark{Batch: 77, Thread: 77, Seq: 77}
	}
	for i := range state[:cap(state)] {
		state[:cap(state)][i] = 77
	}
	if !slices.Equal(others, []api.Mark{mark(1, 0, 0), mark(1, 1, 0)}) || !slices.Equal(also, []int{11}) {
		t.Errorf("P2: the other answers have become %v, %v", others, also)
	}
	tells(t, o, 11, mark(1, 0, 0), mark(1, 1, 0))
	does(t, o, 0, add(1), done(12))
	tells(t, o, 12, mark(1, 0, 0), mark(1, 1, 0), mark(2, 0, 1))
}

// P2: what is handed in stays as it is.
func TestHandedIn(t *testing.T) {
	next, out := []int{1, 0, 0, 1}, []int{7, 8, 9, 10}
	for kind := api.Counter; kind <= api.Table; kind++ {
		c := api.Config{Kind: kind, Threads: 2, Automaton: api.Automaton{States: 2, Codes: 2, Next: next, Out: out}}
		if o, err := announce.New(c); err == api.OK && o != nil {
			o.Do(0, add(1))
		}
	}
	if !slices.Equal(next, []int{1, 0, 0, 1}) || !slices.Equal(out, []int{7, 8, 9, 10}) {
		t.Errorf("P2: the automaton has become %v, %v", next, out)
	}
}

// P2: objects know nothing of one another.
func TestObjectsApart(t *testing.T) {
	one, other := fresh(t, counter(2, 3)), fresh(t, counter(2, 3))
	begins(t, one, 0, add(1))
	moves(t, one, 0, 4)
	does(t, other, 1, add(10), done(10))
	does(t, other, 0, add(10), done(20))
	tells(t, one, 0)
	ends(t, one, 0, 22, done(1))
	tells(t, one, 1, mark(1, 0, 0))
	tells(t, other, 20, mark(1, 1, 0), mark(2, 0, 0))
}
