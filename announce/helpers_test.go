package announce_test

import (
	"slices"
	"testing"

	"announce/announce"
	"announce/api"
)

func counter(threads, most int) api.Config {
	return api.Config{Kind: api.Counter, Threads: threads, Cap: most}
}

func fresh(t *testing.T, c api.Config) *announce.Object {
	t.Helper()
	o, err := announce.New(c)
	if o == nil || err != api.OK {
		t.Fatalf("P3: New(%+v) = %v, %d", c, o, err)
	}
	return o
}

// add lays A on a stack and into a queue too: Add, Push and Put have the same code.
func add(a int) api.Op { return api.Op{Code: api.Add, A: a} }

func done(value int) api.Answer { return api.Answer{Status: api.Done, Value: value} }

func begins(t *testing.T, o *announce.Object, thread int, op api.Op) {
	t.Helper()
	if err := o.Begin(thread, op); err != api.OK {
		t.Fatalf("P5: Begin(%d, %+v) = %d", thread, op, err)
	}
}

// moves: steps that do not end the operation.
func moves(t *testing.T, o *announce.Object, thread, count int) {
	t.Helper()
	for k := range count {
		if how, err := o.Step(thread); how != api.Moved || err != api.OK {
			t.Fatalf("P6, P7: step %d of %d of thread %d = %d, %d, want Moved", k+1, count, thread, how, err)
		}
	}
}

// ends: the last one of that many steps ends the operation.
func ends(t *testing.T, o *announce.Object, thread, count int, want api.Answer) {
	t.Helper()
	moves(t, o, thread, count-1)
	if how, err := o.Step(thread); how != api.Ended || err != api.OK {
		t.Fatalf("P6, P7: the last of %d steps of thread %d = %d, %d, want Ended", count, thread, how, err)
	}
	answers(t, o, thread, want)
}

func answers(t *testing.T, o *announce.Object, thread int, want api.Answer) {
	t.Helper()
	if a, err := o.Answer(thread); a != want || err != api.OK {
		t.Fatalf("P5: Answer(%d) = %+v, %d, want %+v", thread, a, err, want)
	}
}

func does(t *testing.T, o *announce.Object, thread int, op api.Op, want api.Answer) {
	t.Helper()
	if a, err := o.Do(thread, op); a != want || err != api.OK {
		t.Fatalf("P4, P5: Do(%d, %+v) = %+v, %d, want %+v", thread, op, a, err, want)
	}
}

// tells: of a counter.
func tells(t *testing.T, o *announce.Object, sum int, marks ...api.Mark) {
	t.Helper()
	holds(t, o, sum)
	ordered(t, o, marks...)
}

func holds(t *testing.T, o *announce.Object, values ...int) {
	t.Helper()
	if l := o.State(); !slices.Equal(l, values) {
		t.Fatalf("P8: State = %v, want %v", l, values)
	}
}

func ordered(t *testing.T, o *announce.Object, marks ...api.Mark) {
	t.Helper()
	if l := o.Order(); !slices.Equal(l, marks) {
		t.Fatalf("P8: Order = %v, want %v", l, marks)
	}
}

func mark(batch, thread, seq int) api.Mark {
	return api.Mark{Batch: batch, Thread: thread, Seq: seq}
}
