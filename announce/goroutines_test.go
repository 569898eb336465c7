package announce

import (
	"runtime"
	"slices"
	"strings"
	"sync"
	"testing"
	"time"

	"announce/api"
)

// watched is an object that notes which goroutine does the work of which thread.
type watched struct {
	calls
	mutex   sync.Mutex
	runners [][]string // of each thread
}

func watch(t *testing.T, c api.Config) (*Object, *watched) {
	t.Helper()
	object, err := New(c)
	if err != api.OK {
		t.Fatalf("P3: New(%+v): %d", c, err)
	}
	w := &watched{calls: object.calls, runners: make([][]string, c.Threads)}
	return &Object{w}, w
}

func (w *watched) note(thread int) {
	w.mutex.Lock()
	defer w.mutex.Unlock()
	if me := goroutine(); !slices.Contains(w.runners[thread], me) {
		w.runners[thread] = append(w.runners[thread], me)
	}
}

func (w *watched) Begin(thread int, op api.Op) api.Errno {
	w.note(thread)
	return w.calls.Begin(thread, op)
}

func (w *watched) Step(thread int) (int, api.Errno) {
	w.note(thread)
	return w.calls.Step(thread)
}

func (w *watched) Do(thread int, op api.Op) (api.Answer, api.Errno) {
	w.note(thread)
	return w.calls.Do(thread, op)
}

// goroutine is the number of the one that calls.
func goroutine() string {
	text := make([]byte, 64)
	return strings.Fields(string(text[:runtime.Stack(text, false)]))[1]
}

// eachItsOwn: each thread was run by one goroutine, and no two of them by the same one, nor any by the caller's.
func (w *watched) eachItsOwn(t *testing.T, promise string) {
	t.Helper()
	seen := []string{goroutine()}
	for thread, runners := range w.runners {
		if len(runners) != 1 || slices.Contains(seen, runners[0]) {
			t.Fatalf("%s: thread %d was run by the goroutines %v, the caller and the threads ahead of it by %v", promise, thread, runners, seen)
		}
		seen = append(seen, runners[0])
	}
}

// P10, Ways: each thread of a play is a goroutine.
func TestPlayersAreGoroutines(t *testing.T) {
	for _, threads := range []int{1, 2, api.MaxThreads} {
		object, w := watch(t, api.Config{Kind: api.Counter, Threads: threads})
		players := newPlayers(object, slices.Repeat([][]api.Op{{{Code: api.Add, A: 1}}}, threads))
		picks := make([]int, 20*threads)
		for k := range picks {
			picks[k] = k % threads
		}
		follow(players, picks)
		w.eachItsOwn(t, "P10")
	}
}

// P11: each thread of a race is a goroutine of its own.
func TestRacersAreGoroutines(t *testing.T) {
	for _, threads := range []int{1, 2, api.MaxThreads} {
		object, w := watch(t, raceConfig(threads))
		addAll(object, slices.Repeat([][]int{{1, 2, 3}}, threads))
		w.eachItsOwn(t, "P11")
	}
}

// P11: a race's counter has Cap 8.
func TestRaceCap(t *testing.T) {
	for _, threads := range []int{1, 2, api.MaxThreads} {
		if c := raceConfig(threads); c.Kind != api.Counter || c.Threads != threads || c.Cap != 8 {
			t.Errorf("P11: a race of %d programs is of %+v", threads, c)
		}
	}
}

// noneLeft: with one processor whoever tells that it has ended is gone by the time that it is heard: so the goroutines may be counted right behind the call. The count may be off when the runtime cuts in between, but that is rare.
func noneLeft(t *testing.T, name string, call func()) {
	t.Helper()
	defer runtime.GOMAXPROCS(runtime.GOMAXPROCS(1))
	const rounds = 40
	before, left := runtime.NumGoroutine(), 0
	for range rounds {
		call()
		if runtime.NumGoroutine() > before {
			left++
		}
	}
	if left > rounds/4 {
		t.Errorf("P10, P11: %d of %d times goroutines were left behind %s", left, rounds, name)
	}
	for range 100 {
		if runtime.NumGoroutine() <= before {
			return
		}
		time.Sleep(10 * time.Millisecond)
	}
	t.Errorf("P10, P11: %d goroutines ahead of %s, %d behind it", before, name, runtime.NumGoroutine())
}

// P10, P11, Ways: all goroutines have ended when Play and Race answer, also if they have never been picked, are in the middle of an operation, or the call is refused.
func TestNoGoroutineIsLeft(t *testing.T) {
	most := api.Config{Kind: api.Counter, Threads: api.MaxThreads}
	programs := slices.Repeat([][]api.Op{{{Code: api.Add, A: 1}}}, api.MaxThreads)
	for _, c := range []struct {
		name string
		call func()
	}{
		{"a play without picks", func() { Play(most, programs, nil) }},
		{"a play without operations", func() { Play(most, make([][]api.Op, api.MaxThreads), []int{0, 1, 2}) }},
		{"a play that stops in the middle", func() { Play(most, programs, []int{0, 5, 5, 5, 5, 5, 63, 63, -1, 64}) }},
		{"a play to the end", func() { Play(most, programs, make([]int, api.MaxPicks)) }},
		{"a play that is refused", func() { Play(most, programs, make([]int, api.MaxPicks+1)) }},
		{"a race", func() { Race(slices.Repeat([][]int{{1, 2, 3}}, api.MaxThreads)) }},
		{"a race without numbers", func() { Race(make([][]int, api.MaxThreads)) }},
		{"a race that is refused", func() { Race(make([][]int, api.MaxThreads+1)) }},
	} {
		noneLeft(t, c.name, c.call)
	}
}
