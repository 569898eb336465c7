package announce_test

import (
	"slices"
	"sync"
	"testing"

	"announce/announce"
	"announce/api"
)

// finish lets a thread run to the end of its operation, if it has one under way.
func finish(o *announce.Object, thread int) {
	for how := api.Moved; how == api.Moved; {
		how, _ = o.Step(thread)
	}
}

// P12: two operations, with three changes of turn, wherever they fall: both are done once, in the order that is told.
func TestTurns(t *testing.T) {
	for _, kind := range kinds {
		for _, ops := range [][][]api.Op{{{add(1)}, {add(10)}}, {{add(1)}, {{Code: 2}}}, {{{Code: 2}}, {add(10)}}} {
			for first := range 28 {
				for second := range 40 {
					for third := range 40 {
						takeTurns(t, kind, ops, [][2]int{{0, first}, {1, second}, {0, third}})
					}
				}
			}
		}
	}
}

// takeTurns: each turn is a thread and how many steps it may do.
func takeTurns(t *testing.T, kind int, ops [][]api.Op, turns [][2]int) {
	t.Helper()
	o := fresh(t, api.Config{Kind: kind, Threads: 2, Cap: 1})
	for thread := range ops {
		o.Begin(thread, ops[thread][0])
	}
	for _, turn := range turns {
		for range turn[1] {
			o.Step(turn[0])
		}
	}
	told := make([][]api.Answer, len(ops))
	for thread := range slices.Backward(ops) {
		finish(o, thread)
		a, _ := o.Answer(thread)
		told[thread] = []api.Answer{a}
	}
	replays(t, o, kind, ops, told)
}

// P12: goroutines may run the threads at the same time: nothing is lost, or done twice.
func TestAtTheSameTime(t *testing.T) {
	const threads, each = 20, 100
	for _, kind := range kinds {
		o := fresh(t, api.Config{Kind: kind, Threads: threads, Cap: 8})
		ops, told := make([][]api.Op, threads), make([][]api.Answer, threads)
		var group sync.WaitGroup
		for thread := range threads {
			for k := range each {
				ops[thread] = append(ops[thread], api.Op{Code: []int{1, 2, 1, 2, 3}[(thread+k)%5], A: 1000*thread + k})
			}
			group.Go(func() {
				for _, op := range ops[thread] {
					a, _ := o.Do(thread, op)
					told[thread] = append(told[thread], a)
				}
			})
		}
		group.Wait()
		replays(t, o, kind, ops, told)
	}
}
