package engine

import (
	"fmt"
	"slices"
	"testing"

	"announce/api"
	"announce/plain"
)

func add(a int) api.Op { return api.Op{Code: api.Add, A: a, B: 100 + a} }

// steps lets a thread go on; the operation must not end by it.
func steps(t *testing.T, e *Engine[int], thread, count int) {
	t.Helper()
	for k := range count {
		if how, err := e.Step(thread); how != api.Moved || err != api.OK {
			t.Fatalf("step %d of %d of thread %d: %d, %d", k+1, count, thread, how, err)
		}
	}
}

func begin(t *testing.T, e *Engine[int], thread int, op api.Op) {
	t.Helper()
	if err := e.Begin(thread, op); err != api.OK {
		t.Fatalf("Begin(%d, %+v): %d", thread, op, err)
	}
}

// things tells all that the threads share, each thing by a name.
func things(s *shared[int]) map[string]string {
	all := map[string]string{"published": fmt.Sprint(s.published.read().stamp(), s.published.read().record())}
	for i := range s.toggles {
		all[fmt.Sprint("toggles ", i)] = fmt.Sprint(s.toggles[i].read())
	}
	for i := range s.announced {
		for k := range s.announced[i] {
			all[fmt.Sprint("announced ", i, k)] = fmt.Sprint(s.announced[i][k].read())
		}
	}
	for i := range s.pool {
		for k := range s.pool[i].words {
			all[fmt.Sprint("record ", i, k)] = fmt.Sprint(s.pool[i].words[k].read())
		}
		all[fmt.Sprint("record ", i, len(s.pool[i].words))] = fmt.Sprintf("%p", s.pool[i].state.Load())
	}
	return all
}

// changed names what has become another.
func changed(old, now map[string]string) []string {
	var names []string
	for name := range now {
		if now[name] != old[name] {
			names = append(names, name)
		}
	}
	slices.Sort(names)
	return names
}

// Words: what the threads share at first.
func TestFirst(t *testing.T) {
	s := New(plain.Counter{}, 17, 0).shared
	if len(s.toggles) != 2 || len(s.announced) != 17 || len(s.pool) != 35 {
		t.Fatalf("%d words of toggles, %d threads that announce, %d records", len(s.toggles), len(s.announced), len(s.pool))
	}
	for name, thing := range things(s) {
		if name[:6] == "toggle" && thing != "0" || name == "published" && thing != "0 0" {
			t.Errorf("%s is %s", name, thing)
		}
	}
	for k := range s.pool[0].words {
		if n := s.pool[0].words[k].read(); n != 0 {
			t.Errorf("part %d of record 0 is %d", k, n)
		}
	}
	if v := s.newest(); v.state != 0 || v.last.number != 0 {
		t.Errorf("the first state is %d, of batch %d", v.state, v.last.number)
	}
}

// P6, P7: each step of an undisturbed operation writes the one thing that the document names, or nothing.
func TestWrites(t *testing.T) {
	e := New(plain.Counter{}, 2, 0)
	write := []string{"announced 0 0", "announced 0 1", "announced 0 2", "toggles 0"}
	none := make([]string, 1+6+1+1+3)
	for _, c := range []struct {
		op     api.Op
		record int
		parts  []int // those that become other than they were
	}{
		{add(5), 1, []int{0, 1, 3, 5}}, // the applied bit, the status, the value, the state
		{add(6), 2, []int{1, 3, 5}},    // the applied bit is 0 again
		{add(7), 1, []int{3, 5}},       // over the first one's: the bit and the status are the same
		{add(8), 2, []int{3, 5}},
	} {
		want := slices.Concat(write, none)
		if c.op.A > 5 { // the code was written by the operation ahead of it, and stays
			want[0] = ""
		}
		for part := range 6 {
			name := ""
			if slices.Contains(c.parts, part) {
				name = fmt.Sprint("record ", c.record, part)
			}
			want = append(want, name)
		}
		want = append(want, "published", "", "", "")
		begin(t, e, 0, c.op)
		for k, name := range want {
			old := things(e.shared)
			how, _ := e.Step(0)
			if names := changed(old, things(e.shared)); len(names) > 1 || (name != "" || len(names) > 0) && !slices.Equal(names, []string{name}) {
				t.Errorf("P6, P7: Add %d: step %d writes %q, want %q", c.op.A, k+1, names, name)
			}
			if (how == api.Ended) != (k == len(want)-1) {
				t.Errorf("P6: Add %d: step %d of %d tells %d", c.op.A, k+1, len(want), how)
			}
		}
	}
}

// P6: the toggle is flipped by adding and taking: the other bits of its word stay.
func TestFlips(t *testing.T) {
	e := New(plain.Counter{}, 33, 0)
	for _, thread := range []int{0, 15, 16, 17, 32} {
		begin(t, e, thread, add(1))
		steps(t, e, thread, 4)
	}
	told := func() []int {
		var l []int
		for i := range e.shared.toggles {
			l = append(l, e.shared.toggles[i].read())
		}
		return l
	}
	if l := told(); !slices.Equal(l, []int{1 + 1<<15, 1 + 2, 1}) {
		t.Errorf("P6: the toggles are %v", l)
	}
	for how := api.Moved; how == api.Moved; {
		how, _ = e.Step(15)
	}
	begin(t, e, 15, add(1))
	steps(t, e, 15, 4)
	if l := told(); !slices.Equal(l, []int{1, 1 + 2, 1}) {
		t.Errorf("P6: the toggles are %v", l)
	}
}

// P7: the parts of the record are read one a step, in their order: every part changes ahead of every step, and each is seen as it was in its own.
func TestCopies(t *testing.T) {
	e := New(plain.Counter{}, 2, 0)
	begin(t, e, 0, add(1))
	steps(t, e, 0, 4+1)
	first := &e.shared.pool[0]
	for k := range 6 {
		for i := range first.words {
			first.words[i].write(100*k + i)
		}
		first.state.Store(&edition[int]{now: version[int]{state: 100*k + 5, last: &batch{}}})
		steps(t, e, 0, 1)
	}
	d := &e.threads[0].draft
	if got := append(slices.Clone(d.words), d.now.state); !slices.Equal(got, []int{0, 101, 202, 303, 404, 505}) {
		t.Errorf("P7: the copy is %v", got)
	}
}

// P7: the words of toggles are read one a step, in their order.
func TestScans(t *testing.T) {
	e := New(plain.Counter{}, 64, 0)
	begin(t, e, 0, add(1))
	steps(t, e, 0, 4+1+133)
	for k := range 4 {
		for i := range e.shared.toggles {
			e.shared.toggles[i].write(100*k + i)
		}
		steps(t, e, 0, 1)
	}
	if l := e.threads[0].toggles; !slices.Equal(l, []int{0, 101, 202, 303}) {
		t.Errorf("P7: the toggles as read are %v", l)
	}
}

// P7: the announcing words are read one a step, by rising threads, and applied with the third.
func TestHelps(t *testing.T) {
	e := New(plain.Counter{}, 3, 0)
	for _, thread := range []int{2, 0} {
		begin(t, e, thread, add(1))
		steps(t, e, thread, 4)
	}
	steps(t, e, 0, 1+8+1+1)
	if l := e.threads[0].pending; !slices.Equal(l, []int{0, 2}) {
		t.Fatalf("P7: pending are %v", l)
	}
	d := &e.threads[0].draft
	for k := range 6 {
		for _, thread := range []int{0, 2} {
			for i := range 3 {
				e.shared.announced[thread][i].write([]int{api.Sum, 100*k + thread, 0}[i])
			}
		}
		// of each thread's words just the ones that are due are an addition's
		e.shared.announced[k/3*2][0].write(api.Add)
		steps(t, e, 0, 1)
		want := []int{0, 0, 100, 100, 100, 100 + 402}[k]
		if d.now.state != want {
			t.Errorf("P7: behind %d announcing words the state is %d, want %d", k+1, d.now.state, want)
		}
		if applied := d.words[0]; (applied == 5) != (k == 5) {
			t.Errorf("P7: behind %d announcing words the applied bits are %d", k+1, applied)
		}
	}
	if !slices.Equal(d.words, []int{5, api.Done, 0, api.Done, 100, 0, 502}) {
		t.Errorf("P7: the copy is %v", d.words)
	}
}

// P6, P7: an answer is the same, though the record that it is read from is written anew between the three steps.
func TestTakesFromOldRecord(t *testing.T) {
	for first := range 120 {
		for second := range 60 {
			e := New(plain.Counter{}, 2, 0)
			begin(t, e, 0, add(1))
			steps(t, e, 0, 4)
			e.Do(1, add(10))
			steps(t, e, 0, 9+1)
			goOn(e, 1, first)
			steps(t, e, 0, 1)
			goOn(e, 1, second)
			if how, _ := e.Step(0); how != api.Ended {
				t.Fatalf("P6: the last step tells %d", how)
			}
			if a, _ := e.Answer(0); a != (api.Answer{Status: api.Done, Value: 1}) {
				t.Fatalf("P6: behind %d and %d steps of another the answer is %+v", first, second, a)
			}
		}
	}
}

// goOn lets a thread do steps of one operation behind the other.
func goOn(e *Engine[int], thread, count int) {
	for range count {
		e.Begin(thread, add(10))
		e.Step(thread)
	}
}
