package engine

import (
	"math/rand"
	"testing"

	"announce/plain"
)

// P12: an attempt that failed was overtaken by one that succeeded: whatever the kind, and whoever goes on.
func TestOvertaken(t *testing.T) {
	overtaken(t, plain.Counter{})
	overtaken(t, plain.Stack{})
	overtaken(t, plain.Queue{})
	overtaken(t, plain.Map{})
	overtaken(t, table())
}

func overtaken[S any](t *testing.T, object Plain[S]) {
	t.Helper()
	r := rand.New(rand.NewSource(9))
	fails := map[phase]int{}
	for _, threads := range []int{1, 2, 3, 16, 17, 64} {
		e := New(object, threads, 1)
		for range 2000 {
			thread := &e.threads[[]int{0, threads / 2, threads - 1}[r.Intn(3)]]
			for range 1 + r.Intn(2*e.shared.parts()) {
				e.Begin(thread.number, drawn(r))
				ahead := thread.phase
				if !attemptStep(thread) {
					continue
				}
				fails[ahead]++
				if e.shared.published.read().stamp() == thread.seen.stamp() {
					t.Fatalf("P12: %T: an attempt of thread %d failed, and nobody has published since it began", object, thread.number)
				}
			}
		}
	}
	if fails[checking] == 0 || fails[publishing] == 0 {
		t.Errorf("%T: %d attempts have failed at their second look, %d at publishing", object, fails[checking], fails[publishing])
	}
}

// attemptStep does a step, and tells whether an attempt has failed by it: as a backoff of 0 grows by nothing else.
func attemptStep[S any](thread *thread[S]) bool {
	if thread.phase != checking && thread.phase != publishing {
		thread.step()
		return false
	}
	thread.backoff = 0
	thread.step()
	return thread.backoff > 0
}
