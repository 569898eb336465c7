package engine

import (
	"slices"

	"announce/api"
)

func (t *thread[S]) look() {
	t.seen = t.shared.published.read()
	t.enter(copying)
}

func (t *thread[S]) copyPart() {
	t.shared.pool[t.seen.record()].readPart(t.past, &t.draft)
	t.pass(t.shared.parts(), scanning)
}

func (t *thread[S]) scan() {
	t.toggles[t.past] = t.shared.toggles[t.past].read()
	t.pass(len(t.toggles), checking)
}

// check makes sure that the copy is of one piece: nobody writes into a record as long as it is the published one.
func (t *thread[S]) check() {
	if t.shared.published.read().stamp() != t.seen.stamp() {
		t.fail()
		return
	}
	t.pending = t.waitingThreads()
	if slices.Contains(t.pending, t.number) {
		t.enter(helping)
	} else {
		t.enter(finding)
	}
}

// waitingThreads is a new list each time, as a batch keeps it.
func (t *thread[S]) waitingThreads() []int {
	var threads []int
	for i := range t.shared.threads {
		if hasBit(t.toggles, i) != hasBit(t.draft.words, i) {
			threads = append(threads, i)
		}
	}
	return threads
}

// help may hear the words of two operations mixed, if the pending thread is done with this one already; then the attempt is bound to fail.
func (t *thread[S]) help() {
	thread, index := t.pending[t.past/len(t.heard)], t.past%len(t.heard)
	t.heard[index] = t.shared.announced[thread][index].read()
	if index == len(t.heard)-1 {
		t.apply(thread)
	}
	steps := len(t.heard) * len(t.pending)
	if t.past == steps-1 {
		t.closeBatch()
	}
	t.pass(steps, writing)
}

func (t *thread[S]) apply(thread int) {
	op := api.Op{Code: t.heard[0], A: t.heard[1], B: t.heard[2]}
	state, answer := t.shared.object.Apply(t.draft.now.state, op)
	t.draft.now.state = state
	t.draft.words[t.shared.statusAt(thread)] = answer.Status
	t.draft.words[t.shared.valueAt(thread)] = answer.Value
}

func (t *thread[S]) closeBatch() {
	copy(t.draft.words, t.toggles)
	t.draft.now.last = &batch{number: t.seen.stamp() + 1, threads: t.pending, before: t.draft.from.last}
}

func (t *thread[S]) writePart() {
	t.shared.pool[t.spare].writePart(t.past, &t.draft)
	t.pass(t.shared.parts(), publishing)
}

func (t *thread[S]) publish() {
	if !t.shared.published.replace(t.seen, t.seen.next(t.spare)) {
		t.fail()
		return
	}
	t.spare, t.kept = t.kept, t.spare
	t.succeed()
}
