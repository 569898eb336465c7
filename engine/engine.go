package engine

import "announce/api"

// Engine is a plain object and its threads. Goroutines may use it at once, if no two of them are the same thread.
type Engine[S any] struct {
	shared  *shared[S]
	threads []thread[S]
	most    int
}

// New takes 1 to api.MaxThreads threads, and the most that one of them waits ahead of an attempt.
func New[S any](object Plain[S], threads, most int) *Engine[S] {
	e := &Engine[S]{shared: newShared(object, threads), most: most}
	for i := range threads {
		e.threads = append(e.threads, newThread(e.shared, i, most))
	}
	return e
}

func (e *Engine[S]) has(thread int) bool { return thread >= 0 && thread < len(e.threads) }

// Begin begins an operation (P5).
func (e *Engine[S]) Begin(thread int, op api.Op) api.Errno {
	switch {
	case !e.has(thread):
		return api.ErrThread
	case e.threads[thread].busy():
		return api.ErrBusy
	}
	e.threads[thread].begin(op)
	return api.OK
}

// Step lets a thread go on by one step (P5 to P7).
func (e *Engine[S]) Step(thread int) (int, api.Errno) {
	switch {
	case !e.has(thread):
		return 0, api.ErrThread
	case !e.threads[thread].busy():
		return 0, api.ErrIdle
	}
	e.threads[thread].step()
	if e.threads[thread].busy() {
		return api.Moved, api.OK
	}
	return api.Ended, api.OK
}

// Answer tells the answer of a thread's last operation (P5).
func (e *Engine[S]) Answer(thread int) (api.Answer, api.Errno) {
	switch {
	case !e.has(thread):
		return api.Answer{}, api.ErrThread
	case e.threads[thread].busy():
		return api.Answer{}, api.ErrBusy
	case !e.threads[thread].ended:
		return api.Answer{}, api.ErrIdle
	}
	return e.threads[thread].answer, api.OK
}

// Do begins an operation and goes on till it has ended (P5).
func (e *Engine[S]) Do(thread int, op api.Op) (api.Answer, api.Errno) {
	if err := e.Begin(thread, op); err != api.OK {
		return api.Answer{}, err
	}
	for e.threads[thread].busy() {
		e.threads[thread].step()
	}
	return e.Answer(thread)
}

// Order tells in which order operations have taken effect (P8).
func (e *Engine[S]) Order() []api.Mark { return e.shared.order(e.shared.newest().last) }

// State tells what the object holds (P8).
func (e *Engine[S]) State() []int { return e.shared.object.Tell(e.shared.newest().state) }

// Bound tells how many steps an operation takes at most (P9).
func (e *Engine[S]) Bound() int {
	l := e.shared.layout
	attempt := e.most + 3 + 2*l.parts() + l.toggleWords() + 3*l.threads
	return 4 + 2*attempt + 3
}
