package announce_test

import (
	"iter"
	"math/rand"
	"slices"
	"testing"

	"announce/announce"
	"announce/api"
)

// model is an object and its threads, told straight from P6 and P7: an operation is one function that stops behind each step.
type model struct {
	kind                 int
	threads, words, most int
	toggles              []int
	announced            []api.Op
	pool                 []modelRecord
	stamp, published     int
	order                []api.Mark
	actors               []modelThread
}

type modelRecord struct {
	applied, statuses, values []int
	state                     []int // as State tells it
}

type modelThread struct {
	toggle         bool
	backoff, spare int
	begun          int
	answer         api.Answer
	next           func() (struct{}, bool)
	stop           func()
	ended          bool
}

func newModel(c api.Config) *model {
	w := (c.Threads + 15) / 16
	m := &model{kind: c.Kind, threads: c.Threads, words: w, most: c.Cap, toggles: make([]int, w), announced: make([]api.Op, c.Threads), actors: make([]modelThread, c.Threads)}
	for range 2*c.Threads + 1 {
		m.pool = append(m.pool, m.emptyRecord())
	}
	for t := range m.actors {
		m.actors[t].spare = 1 + 2*t
	}
	return m
}

func (m *model) emptyRecord() modelRecord {
	return modelRecord{applied: make([]int, m.words), statuses: make([]int, m.threads), values: make([]int, m.threads), state: firstly(m.kind)}
}

func (m *model) begin(t int, op api.Op) {
	a := &m.actors[t]
	a.begun++
	a.ended = false
	a.next, a.stop = iter.Pull(m.operation(t, op))
}

// step tells whether the operation has ended.
func (m *model) step(t int) bool {
	a := &m.actors[t]
	a.next()
	if a.ended {
		a.stop()
	}
	return a.ended
}

const (
	failed = iota
	succeeded
	spared
)

func (m *model) operation(t int, op api.Op) iter.Seq[struct{}] {
	return func(yield func(struct{}) bool) {
		a := &m.actors[t]
		stop := func() { yield(struct{}{}) }
		m.announced[t].Code = op.Code
		stop()
		m.announced[t].A = op.A
		stop()
		m.announced[t].B = op.B
		stop()
		m.toggles[t/16] ^= 1 << (t % 16)
		a.toggle = !a.toggle
		stop()
		for range 2 {
			for range a.backoff {
				stop()
			}
			how := m.attempt(t, stop)
			switch how {
			case failed:
				a.backoff = min(2*a.backoff+1, m.most)
			case succeeded:
				a.backoff /= 2
			}
			if how != failed {
				break
			}
		}
		r := m.published
		stop()
		status := m.pool[r].statuses[t]
		stop()
		a.answer = api.Answer{Status: status, Value: m.pool[r].values[t]}
		a.ended = true
		stop()
	}
}

func (m *model) attempt(t int, stop func()) int {
	a := &m.actors[t]
	stamp, r := m.stamp, m.published
	stop()
	c := m.emptyRecord()
	m.transfer(&c, &m.pool[r], stop)
	toggles := make([]int, m.words)
	for i := range toggles {
		toggles[i] = m.toggles[i]
		stop()
	}
	if m.stamp != stamp {
		stop()
		return failed
	}
	var pending []int
	for i := range m.threads {
		if (toggles[i/16]^c.applied[i/16])>>(i%16)&1 == 1 {
			pending = append(pending, i)
		}
	}
	stop()
	if !slices.Contains(pending, t) {
		return spared
	}
	for _, i := range pending {
		var op api.Op
		op.Code = m.announced[i].Code
		stop()
		op.A = m.announced[i].A
		stop()
		op.B = m.announced[i].B
		var answer api.Answer
		c.state, answer = plainly(m.kind, c.state, op)
		c.statuses[i], c.values[i] = answer.Status, answer.Value
		stop()
	}
	copy(c.applied, toggles)
	m.transfer(&m.pool[a.spare], &c, stop)
	defer stop()
	if m.stamp != stamp || m.published != r {
		return failed
	}
	m.stamp, m.published = stamp+1, a.spare
	a.spare = 4*t + 3 - a.spare
	for _, i := range pending {
		m.order = append(m.order, api.Mark{Batch: m.stamp, Thread: i, Seq: m.actors[i].begun - 1})
	}
	return succeeded
}

// transfer copies a record part by part.
func (m *model) transfer(into, from *modelRecord, stop func()) {
	for _, lists := range [][2][]int{{into.applied, from.applied}, {into.statuses, from.statuses}, {into.values, from.values}} {
		for i := range lists[0] {
			lists[0][i] = lists[1][i]
			stop()
		}
	}
	into.state = from.state
	stop()
}

// together lets an object and a model go on by the same steps, and holds them against each other behind each.
type together struct {
	t     *testing.T
	o     *announce.Object
	m     *model
	busy  []bool
	taken []int
}

func (g *together) step(thread int, op api.Op) {
	if !g.busy[thread] {
		begins(g.t, g.o, thread, op)
		g.m.begin(thread, op)
		g.busy[thread], g.taken[thread] = true, 0
	}
	want := api.Moved
	if g.m.step(thread) {
		want = api.Ended
		g.busy[thread] = false
	}
	g.taken[thread]++
	if how, err := g.o.Step(thread); how != want || err != api.OK || g.taken[thread] > g.o.Bound() {
		g.t.Fatalf("P6, P7, P9: step %d of thread %d = %d, %d, want %d", g.taken[thread], thread, how, err, want)
	}
	if want == api.Ended {
		answers(g.t, g.o, thread, g.m.actors[thread].answer)
	}
	holds(g.t, g.o, g.m.pool[g.m.published].state...)
}

// P4 to P9: whichever threads go on, every step, answer, order and state is the model's.
func TestModel(t *testing.T) {
	r := rand.New(rand.NewSource(7))
	for round := range 640 {
		c := config(kinds[round%len(kinds)], []int{1, 2, 3, 4, 5, 16, 17, 64}[round%8], r.Intn(12))
		g := &together{t: t, o: fresh(t, c), m: newModel(c), busy: make([]bool, c.Threads), taken: make([]int, c.Threads)}
		few := 1 + r.Intn(c.Threads) // how many threads come at all: fewer of them overtake each other more often
		for range 200 {
			thread := r.Intn(few) + r.Intn(2)*(c.Threads-few)
			for range 1 + r.Intn(1+r.Intn(60)) {
				g.step(thread, api.Op{Code: r.Intn(5), A: r.Intn(9) - 4, B: r.Intn(100) - 50})
			}
			if l := g.o.Order(); !slices.Equal(l, g.m.order) {
				t.Fatalf("P8: %+v: Order = %v, want %v", c, l, g.m.order)
			}
		}
		for thread := range c.Threads {
			for g.busy[thread] {
				g.step(thread, api.Op{})
			}
		}
		if l := g.o.Order(); !slices.Equal(l, g.m.order) {
			t.Fatalf("P8: %+v: in the end Order = %v, want %v", c, l, g.m.order)
		}
	}
}
