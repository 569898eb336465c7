package announce_test

import (
	"slices"
	"sync"
	"sync/atomic"
	"testing"

	"announce/announce"
	"announce/api"
)

// finish lets a thread run to the end of its operation, if it has one under way.
func finish(o *announce.Object, thread int) {
	for how := api.Moved; how == api.Moved; {
		how, _ = o.Step(thread)
	}
}

// P12: two operations, with three changes of turn, wherever they fall: both are done once, in the order that is told.
func TestTurns(t *testing.T) {
	for _, kind := range kinds {
		for _, ops := range pairs(kind) {
			for first := range 28 {
				for second := range 40 {
					for third := range 40 {
						takeTurns(t, kind, ops, [][2]int{{0, first}, {1, second}, {0, third}})
					}
				}
			}
		}
	}
}

// pairs are operations whose order is to be seen in their answers.
func pairs(kind int) [][2]api.Op {
	switch kind {
	case api.Map:
		return [][2]api.Op{{store(1, 5), store(1, 6)}, {store(1, 5), remove(1)}, {load(1), store(1, 6)}}
	case api.Table:
		return [][2]api.Op{{{Code: 0}, {Code: 1}}, {{Code: 2}, {Code: 1}}, {{Code: 3}, {Code: 0}}}
	}
	return [][2]api.Op{{add(1), add(10)}, {add(1), {Code: 2}}, {{Code: 2}, add(10)}}
}

// takeTurns: each turn is a thread and how many steps it may do.
func takeTurns(t *testing.T, kind int, ops [2]api.Op, turns [][2]int) {
	t.Helper()
	o := fresh(t, config(kind, 2, 1))
	deeds := make([][]deed, 2)
	for thread, op := range ops {
		o.Begin(thread, op)
		deeds[thread] = []deed{{op: op, ended: 1}}
	}
	for _, turn := range turns {
		for range turn[1] {
			o.Step(turn[0])
		}
	}
	for thread := range slices.Backward(deeds) {
		finish(o, thread)
		deeds[thread][0].answer, _ = o.Answer(thread)
	}
	oneAtATime(t, o, kind, deeds)
}

// P12: goroutines may run the threads at the same time: nothing is lost, or done twice.
func TestAtTheSameTime(t *testing.T) {
	for _, kind := range kinds {
		for _, threads := range []int{1, 16, 17, api.MaxThreads} {
			atTheSameTime(t, kind, threads, 1600/threads)
		}
	}
}

func atTheSameTime(t *testing.T, kind, threads, each int) {
	t.Helper()
	o := fresh(t, config(kind, threads, 8))
	deeds := make([][]deed, threads)
	var clock atomic.Int64
	var group sync.WaitGroup
	for thread := range threads {
		group.Go(func() {
			for k := range each {
				d := deed{op: mixed(kind, thread, k), begun: int(clock.Add(1))}
				d.answer, _ = o.Do(thread, d.op)
				d.ended = int(clock.Add(1))
				deeds[thread] = append(deeds[thread], d)
			}
		})
	}
	group.Wait()
	oneAtATime(t, o, kind, deeds)
}

// mixed draws all codes and one that is none; of a map all threads come to the same few keys.
func mixed(kind, thread, k int) api.Op {
	number := 1000*thread + k
	switch kind {
	case api.Map:
		return api.Op{Code: []int{1, 2, 1, 3, 4}[(thread+k)%5], A: (thread + 3*k) % 7, B: number}
	case api.Table:
		return api.Op{Code: (thread + k) % 4, A: number}
	}
	return api.Op{Code: []int{1, 2, 1, 2, 3}[(thread+k)%5], A: number}
}
