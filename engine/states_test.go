package engine

import (
	"math/rand"
	"slices"
	"sync"
	"testing"

	"announce/api"
	"announce/plain"
)

// Ways: what was published once stays as it was, whatever comes behind it, or is tried in attempts that fail.
func TestStatesStay(t *testing.T) {
	statesStay(t, plain.Counter{})
	statesStay(t, plain.Stack{})
	statesStay(t, plain.Queue{})
	statesStay(t, plain.Map{})
	statesStay(t, table())
}

// table has two states and two codes.
func table() plain.Table {
	return plain.NewTable(api.Automaton{States: 2, Codes: 2, Next: []int{1, 0, 0, 1}, Out: []int{7, 8, 9, 10}})
}

// drawn is any kind's operation: few keys, for a map; many values.
func drawn(r *rand.Rand) api.Op {
	return api.Op{Code: r.Intn(5), A: r.Intn(12), B: r.Intn(100)}
}

func statesStay[S any](t *testing.T, object Plain[S]) {
	t.Helper()
	r := rand.New(rand.NewSource(5))
	for range 40 {
		threads := 2 + r.Intn(4)
		e := New(object, threads, r.Intn(3))
		states := []S{object.First()}
		told := [][]int{object.Tell(states[0])}
		for range 3000 {
			thread := r.Intn(threads)
			e.Begin(thread, drawn(r))
			e.Step(thread)
			if p := e.shared.published.read(); p.stamp() == len(states) {
				states = append(states, e.shared.pool[p.record()].state.Load().now.state)
				told = append(told, e.State())
			}
		}
		for i := range states {
			if l := object.Tell(states[i]); !slices.Equal(l, told[i]) {
				t.Fatalf("%T: the state of stamp %d has become %v, and was %v", object, i, l, told[i])
			}
		}
	}
}

// P8: goroutines run threads at the same time, and others look on: every list that is told is one that rising values can leave.
func TestListsLookedAt(t *testing.T) {
	listsLookedAt(t, plain.Stack{}, func(values []int) { slices.Reverse(values) })
	listsLookedAt(t, plain.Queue{}, func([]int) {})
}

// listsLookedAt: oldestFirst turns what is told.
func listsLookedAt[S any](t *testing.T, object Plain[S], oldestFirst func([]int)) {
	t.Helper()
	const threads, each = 4, 200
	e := New(object, threads, 4)
	var work, looks sync.WaitGroup
	end := make(chan struct{})
	looks.Go(func() {
		for {
			select {
			case <-end:
				return
			default:
			}
			values := e.State()
			oldestFirst(values)
			if !risingByThreads(values, threads) {
				t.Errorf("P8: %T tells %v", object, values)
				return
			}
		}
	})
	for i := range threads {
		work.Go(func() {
			for k := range each {
				e.Do(i, api.Op{Code: 1, A: i + threads*k})
				if k%3 == 2 {
					e.Do(i, api.Op{Code: 2})
				}
			}
		})
	}
	work.Wait()
	close(end)
	looks.Wait()
	if n := len(e.State()); n != threads*(each-each/3) {
		t.Errorf("P8: %T: %d values in the end", object, n)
	}
}

// P8: the same of a map, in which each thread stores rising values at its own key, and at one that it removes again.
func TestMapLookedAt(t *testing.T) {
	const threads, each = 4, 200
	e := New(plain.Map{}, threads, 4)
	var work, looks sync.WaitGroup
	end := make(chan struct{})
	looks.Go(func() {
		var last [threads]int
		for {
			select {
			case <-end:
				return
			default:
			}
			if l := e.State(); !risingByKeys(l, last[:]) {
				t.Errorf("P8: a map tells %v, and %v ahead of it", l, last)
				return
			}
		}
	})
	for i := range threads {
		work.Go(func() {
			for k := range each {
				e.Do(i, api.Op{Code: api.Store, A: i, B: k + 1})
				e.Do(i, api.Op{Code: api.Store, A: threads + i, B: k + 1})
				e.Do(i, api.Op{Code: api.Remove, A: threads + i})
			}
		})
	}
	work.Wait()
	close(end)
	looks.Wait()
	if l := e.State(); !slices.Equal(l, []int{0, each, 1, each, 2, each, 3, each}) {
		t.Errorf("P8: in the end %v", l)
	}
}

// risingByKeys: the keys rise; the values of a thread's own key never go back, and what is at the other key was stored behind it. last is brought up to now.
func risingByKeys(list, last []int) bool {
	threads, before := len(last), -1
	for pair := range slices.Chunk(list, 2) {
		key, value := pair[0], pair[1]
		if key <= before || value < last[key%threads] || key >= threads && value != last[key%threads] {
			return false
		}
		before = key
		last[key%threads] = value
	}
	return true
}

// risingByThreads: the values of each thread rise.
func risingByThreads(values []int, threads int) bool {
	last := make([]int, threads)
	for i := range last {
		last[i] = -1
	}
	for _, a := range values {
		if a <= last[a%threads] {
			return false
		}
		last[a%threads] = a
	}
	return true
}
