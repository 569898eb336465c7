package engine

import (
	"math/rand"
	"slices"
	"sync"
	"testing"

	"announce/api"
	"announce/plain"
)

// P8: whenever one looks at the published word, and however late at the record: what is told was published, at the first look or since then.
func TestNewest(t *testing.T) {
	r := rand.New(rand.NewSource(1))
	old := 0
	for range 300 {
		threads := 1 + r.Intn(4)
		e := New(plain.Counter{}, threads, r.Intn(3))
		states := []int{0} // by stamps
		for range 60 {
			seen := e.shared.published.read()
			for range r.Intn(150) {
				goOn(e, r.Intn(threads), 1)
				if p := e.shared.published.read(); p.stamp() == len(states) {
					states = append(states, e.shared.pool[p.record()].state.Load().now.state)
				}
			}
			v := e.shared.versionSince(seen)
			if n := v.last.number; n < seen.stamp() || n >= len(states) || states[n] != v.state {
				t.Fatalf("P8: behind the stamps %d to %d: state %d, stamp %d", seen.stamp(), len(states)-1, v.state, n)
			}
			if v.last.number > seen.stamp() {
				old++
			}
			if l := e.State(); !slices.Equal(l, states[len(states)-1:]) {
				t.Fatalf("P8: State is %v, want %v", l, states[len(states)-1:])
			}
		}
	}
	if old == 0 {
		t.Error("no look came late")
	}
}

// P8, P12: goroutines run threads at the same time, and others look on: every sum that is told is one of the order's.
func TestGoroutines(t *testing.T) {
	const threads, each = 8, 200
	e := New(plain.Counter{}, threads, 4)
	var work, looks sync.WaitGroup
	end := make(chan struct{})
	for range 2 {
		looks.Go(func() { lookOn(t, e, end) })
	}
	answers := make([][]api.Answer, threads)
	for i := range threads {
		work.Go(func() {
			for k := range each {
				a, _ := e.Do(i, add(1+i+k))
				answers[i] = append(answers[i], a)
			}
		})
	}
	work.Wait()
	close(end)
	looks.Wait()
	sum := 0
	marks := e.Order()
	for _, m := range marks {
		sum += 1 + m.Thread + m.Seq
		if want := (api.Answer{Status: api.Done, Value: sum}); answers[m.Thread][m.Seq] != want {
			t.Fatalf("P12: %+v answered %+v, want %+v", m, answers[m.Thread][m.Seq], want)
		}
	}
	if len(marks) != threads*each || !slices.Equal(e.State(), []int{sum}) {
		t.Errorf("P8: %d operations, state %v, want %d, %d", len(marks), e.State(), threads*each, sum)
	}
}

// lookOn: what is told never goes back, and all numbers are more than 0.
func lookOn(t *testing.T, e *Engine[int], end chan struct{}) {
	var sum int
	var marks []api.Mark
	for {
		select {
		case <-end:
			return
		default:
		}
		now, l := e.State()[0], e.Order()
		if now < sum || len(l) < len(marks) || !slices.Equal(l[:len(marks)], marks) {
			t.Errorf("P8: the state %d behind %d, %d marks behind %d", now, sum, len(l), len(marks))
			return
		}
		sum, marks = now, l
	}
}
