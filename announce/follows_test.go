package announce_test

import (
	"fmt"
	"math/rand"
	"slices"
	"testing"

	"announce/announce"
	"announce/api"
)

// deed is an operation that was begun: when, and when it ended, by a clock (0: it has not ended); how many steps it took up to now; which batch was the last when it flipped its toggle (-1: it has not flipped).
type deed struct {
	op           api.Op
	begun, ended int
	answer       api.Answer
	steps        int
	behind       int
}

// oneAtATime holds an object against P12's first sentence.
func oneAtATime(t *testing.T, o *announce.Object, kind int, deeds [][]deed) {
	t.Helper()
	marks := o.Order()
	state, want, latest, counts := firstly(kind), api.Answer{}, 0, make([]int, len(deeds))
	for _, m := range marks {
		if m.Seq != counts[m.Thread] || m.Seq >= len(deeds[m.Thread]) {
			t.Fatalf("P12: kind %d: %+v, and thread %d had begun %d operations, of which %d stand ahead", kind, m, m.Thread, len(deeds[m.Thread]), counts[m.Thread])
		}
		counts[m.Thread]++
		d := deeds[m.Thread][m.Seq]
		state, want = plainly(kind, state, d.op)
		if d.ended > 0 && d.answer != want {
			t.Fatalf("P12: kind %d: %+v, %+v, answered %+v, want %+v", kind, m, d.op, d.answer, want)
		}
		if d.ended > 0 && d.ended < latest {
			t.Fatalf("P12: kind %d: %+v ended at %d, and stands behind one that began at %d", kind, m, d.ended, latest)
		}
		latest = max(latest, d.begun)
	}
	for thread, l := range deeds {
		ended := 0
		for _, d := range l {
			if d.ended > 0 {
				ended++
			}
		}
		if counts[thread] < ended {
			t.Fatalf("P12: kind %d: %d operations of thread %d have ended, and %d are there", kind, ended, thread, counts[thread])
		}
	}
	holds(t, o, state...)
}

// play is an object whose threads go on in a drawn order, and what they have done.
type play struct {
	o     *announce.Object
	kind  int
	deeds [][]deed
	clock int
}

// draw lets any threads go on; some of them stop for good sooner or later, wherever they are.
func draw(t *testing.T, r *rand.Rand, c api.Config, turns int) *play {
	t.Helper()
	p := &play{o: fresh(t, c), kind: c.Kind, deeds: make([][]deed, c.Threads)}
	few := 1 + r.Intn(c.Threads)
	stops := make([]int, c.Threads)
	for thread := range stops {
		stops[thread] = r.Intn(2 * turns)
	}
	for turn := range turns {
		thread := r.Intn(few) + r.Intn(2)*(c.Threads-few)
		for range 1 + r.Intn(1+r.Intn(2*p.o.Bound()/3)) {
			if turn < stops[thread] {
				p.step(t, thread, mixed(c.Kind, thread, r.Intn(1000)))
			}
		}
	}
	return p
}

// step begins an operation, if none is under way.
func (p *play) step(t *testing.T, thread int, op api.Op) {
	t.Helper()
	p.clock++
	if l := p.deeds[thread]; len(l) == 0 || l[len(l)-1].ended > 0 {
		begins(t, p.o, thread, op)
		p.deeds[thread] = append(l, deed{op: op, begun: p.clock, behind: -1})
	}
	d := &p.deeds[thread][len(p.deeds[thread])-1]
	how, err := p.o.Step(thread)
	if err != api.OK {
		t.Fatalf("P5: Step(%d) = %d, %d", thread, how, err)
	}
	d.steps++
	if d.steps == 4 {
		d.behind = lastBatch(p.o)
	}
	if how == api.Ended {
		p.clock++
		d.ended = p.clock
		d.answer, _ = p.o.Answer(thread)
	}
}

func lastBatch(o *announce.Object) int {
	marks := o.Order()
	if len(marks) == 0 {
		return 0
	}
	return marks[len(marks)-1].Batch
}

// forAllDrawn lets many plays be looked at, of all kinds and with few, many and most threads.
func forAllDrawn(t *testing.T, look func(p *play) string) {
	t.Helper()
	r := rand.New(rand.NewSource(11))
	for _, kind := range kinds {
		for _, threads := range []int{1, 2, 3, 5, 16, 17, api.MaxThreads} {
			for range 12 {
				c := config(kind, threads, r.Intn(5))
				if fault := look(draw(t, r, c, 150)); fault != "" {
					t.Fatalf("P12: kind %d, %d threads, Cap %d: %s", kind, threads, c.Cap, fault)
				}
			}
		}
	}
}

// P12, the first sentence: whoever goes on, and whoever stops, the object is as if one operation were done at a time.
func TestOneAtATime(t *testing.T) {
	forAllDrawn(t, func(p *play) string {
		oneAtATime(t, p.o, p.kind, p.deeds)
		return ""
	})
}

// P12, the second sentence: what has flipped is in one of the next two batches, and what has not is in none.
func TestNextTwoBatches(t *testing.T) {
	forAllDrawn(t, func(p *play) string {
		batches := map[[2]int]int{}
		for _, m := range p.o.Order() {
			batches[[2]int{m.Thread, m.Seq}] = m.Batch
		}
		last := lastBatch(p.o)
		for thread, l := range p.deeds {
			for seq, d := range l {
				in, there := batches[[2]int{thread, seq}]
				if there && (d.behind < 0 || in <= d.behind || in > d.behind+2) || !there && d.behind >= 0 && last >= d.behind+2 {
					return fmt.Sprintf("operation %d of thread %d flipped behind batch %d of %d, and is in %d", seq, thread, d.behind, last, in)
				}
			}
		}
		return ""
	})
}

// P12, the third sentence: no operation takes more steps than Bound tells.
func TestNobodyWaits(t *testing.T) {
	forAllDrawn(t, func(p *play) string {
		for thread, l := range p.deeds {
			for seq, d := range l {
				if d.steps > p.o.Bound() {
					return fmt.Sprintf("operation %d of thread %d took %d steps, Bound is %d", seq, thread, d.steps, p.o.Bound())
				}
			}
		}
		return ""
	})
}

// P12, the second sentence: a thread that never goes on behind its flip is done in the next batch, if its word of toggles was not read for that one yet, and else in the one behind that.
func TestFlippedForGood(t *testing.T) {
	for _, kind := range kinds {
		for _, threads := range []int{2, 16, 17, api.MaxThreads} {
			for steps := range 4 + 1 + 133 + 4 + 1 + 3 + 133 + 1 {
				flippedForGood(t, kind, threads, steps)
			}
		}
	}
}

// flippedForGood: the last thread flips behind that many steps of thread 0's operation, if it takes so many to publish.
func flippedForGood(t *testing.T, kind, threads, steps int) {
	t.Helper()
	words := (threads + 15) / 16
	parts := words + 2*threads + 1
	if steps >= 4+1+parts+words+1+3+parts+1 {
		return
	}
	o := fresh(t, config(kind, threads, 0))
	begins(t, o, 0, mixed(kind, 0, 0))
	moves(t, o, 0, steps)
	begins(t, o, threads-1, mixed(kind, 1, 1))
	moves(t, o, threads-1, 4)
	finish(o, 0)
	o.Do(0, mixed(kind, 0, 1))
	o.Do(0, mixed(kind, 0, 2))
	batch := 1
	if steps >= 4+1+parts+words { // the last word has been read
		batch = 2
	}
	marks := []api.Mark{mark(1, 0, 0), mark(2, 0, 1), mark(3, 0, 2)}
	ordered(t, o, slices.Insert(marks, batch, mark(batch, threads-1, 0))...)
	ops := []api.Op{mixed(kind, 0, 0), mixed(kind, 0, 1), mixed(kind, 0, 2)}
	holds(t, o, plainlyAll(kind, slices.Insert(ops, batch, mixed(kind, 1, 1))...)...)
}
