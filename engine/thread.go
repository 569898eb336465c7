package engine

import "announce/api"

type phase int

// The phases of an operation, in the order in which an undisturbed one goes through them.
const (
	idle phase = iota
	announcing
	flipping
	waiting
	looking
	copying
	scanning
	checking
	helping
	writing
	publishing
	finding
	takingStatus
	takingValue
)

// thread is what a thread has for itself. No other thread reads or writes it.
type thread[S any] struct {
	shared *shared[S]
	number int
	most   int // of its backoff

	phase   phase
	past    int // how many steps of the phase are done
	op      [3]int
	toggle  bool // kept here, so that flipping needs no look at the shared word
	backoff int
	again   bool // whether the attempt is the second one

	spare, kept int // its two records: the one to write into next, and the one that it published last
	seen        publication
	draft       draft[S]
	toggles     []int
	pending     []int
	heard       [3]int // the announcing words of a pending thread, as far as they are read

	found  int // the record that has the answer
	answer api.Answer
	ended  bool // whether any operation has
}

func newThread[S any](s *shared[S], number, most int) thread[S] {
	return thread[S]{
		shared:  s,
		number:  number,
		most:    most,
		spare:   2*number + 1,
		kept:    2*number + 2,
		draft:   draft[S]{words: make([]int, s.recordWords())},
		toggles: make([]int, s.toggleWords()),
	}
}

func (t *thread[S]) busy() bool { return t.phase != idle }

func (t *thread[S]) begin(op api.Op) {
	t.op = [3]int{op.Code, op.A, op.B}
	t.again = false
	t.enter(announcing)
}

func (t *thread[S]) enter(p phase) { t.phase, t.past = p, 0 }

// pass counts a step of a phase that has several; behind the last one comes the next phase.
func (t *thread[S]) pass(steps int, next phase) {
	t.past++
	if t.past == steps {
		t.enter(next)
	}
}

// step does the next step: whichever it is, it touches at most one thing that threads share.
func (t *thread[S]) step() {
	switch t.phase {
	case announcing:
		t.announce()
	case flipping:
		t.flip()
	case waiting:
		t.pass(t.backoff, looking)
	case looking:
		t.look()
	case copying:
		t.copyPart()
	case scanning:
		t.scan()
	case checking:
		t.check()
	case helping:
		t.help()
	case writing:
		t.writePart()
	case publishing:
		t.publish()
	case finding:
		t.find()
	case takingStatus:
		t.takeStatus()
	case takingValue:
		t.takeValue()
	}
}

func (t *thread[S]) announce() {
	t.shared.announced[t.number][t.past].write(t.op[t.past])
	t.pass(len(t.op), flipping)
}

// flip adds or takes the bit's worth, rather than writing the word, as the word's other bits are other threads'.
func (t *thread[S]) flip() {
	index, worth := toggleAt(t.number)
	if t.toggle {
		worth = -worth
	}
	t.toggle = !t.toggle
	t.shared.toggles[index].Add(int64(worth))
	t.approach()
}

// approach leads to an attempt. A backoff of 0 takes no step, so there is no phase of waiting then.
func (t *thread[S]) approach() {
	if t.backoff > 0 {
		t.enter(waiting)
	} else {
		t.enter(looking)
	}
}

// fail ends an attempt that was overtaken. Behind the second one there is no third: one of the two that overtook it has done the operation.
func (t *thread[S]) fail() {
	t.backoff = min(2*t.backoff+1, t.most)
	if t.again {
		t.enter(finding)
		return
	}
	t.again = true
	t.approach()
}

func (t *thread[S]) succeed() {
	t.backoff /= 2
	t.enter(finding)
}

func (t *thread[S]) find() {
	t.found = t.shared.published.read().record()
	t.enter(takingStatus)
}

// takeStatus may read a record that is being written anew, as takeValue may: but every later record has the same answer for this thread, till it flips its toggle again.
func (t *thread[S]) takeStatus() {
	t.answer.Status = t.shared.pool[t.found].words[t.shared.statusAt(t.number)].read()
	t.enter(takingValue)
}

func (t *thread[S]) takeValue() {
	t.answer.Value = t.shared.pool[t.found].words[t.shared.valueAt(t.number)].read()
	t.ended = true
	t.enter(idle)
}
