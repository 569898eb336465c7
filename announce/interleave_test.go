package announce_test

import (
	"slices"
	"sync"
	"testing"

	"announce/announce"
	"announce/api"
)

// finish lets a thread run to the end of its operation, if it has one under way.
func finish(o *announce.Object, thread int) {
	for how := api.Moved; how == api.Moved; {
		how, _ = o.Step(thread)
	}
}

// P12: two operations, with three changes of turn, wherever they fall: both are done once, in the order that is told.
func TestTurns(t *testing.T) {
	for first := range 28 {
		for second := range 40 {
			for third := range 40 {
				o := fresh(t, counter(2, 1))
				o.Begin(0, add(1))
				o.Begin(1, add(10))
				for _, turn := range [][2]int{{0, first}, {1, second}, {0, third}} {
					for range turn[1] {
						o.Step(turn[0])
					}
				}
				finish(o, 1)
				finish(o, 0)
				marks := o.Order()
				if len(marks) != 2 || marks[0].Thread == marks[1].Thread || !slices.Equal(o.State(), []int{11}) {
					t.Fatalf("P12: turns of %d, %d, %d steps: %v, %v", first, second, third, marks, o.State())
				}
				sum := 0
				for _, m := range marks {
					sum += []int{1, 10}[m.Thread]
					answers(t, o, m.Thread, done(sum))
				}
			}
		}
	}
}

// P12: goroutines may run the threads at the same time: nothing is lost, or done twice.
func TestAtTheSameTime(t *testing.T) {
	const threads, each = 20, 100
	o := fresh(t, counter(threads, 8))
	told := make([][]api.Answer, threads)
	var group sync.WaitGroup
	for thread := range threads {
		group.Go(func() {
			for k := range each {
				a, _ := o.Do(thread, add(thread-k))
				told[thread] = append(told[thread], a)
			}
		})
	}
	group.Wait()
	sum, counts := 0, make([]int, threads)
	for _, m := range o.Order() {
		sum += m.Thread - m.Seq
		if m.Seq != counts[m.Thread] || told[m.Thread][m.Seq] != done(sum) {
			t.Fatalf("P12: %+v answered %+v, want %d", m, told[m.Thread][m.Seq], sum)
		}
		counts[m.Thread]++
	}
	if slices.Min(counts) != each || !slices.Equal(o.State(), []int{sum}) {
		t.Errorf("P12: %v operations, state %v, want %d of each, %d", counts, o.State(), each, sum)
	}
}
