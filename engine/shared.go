package engine

import "announce/api"

// shared is what the threads of one object share. The layout and the object never change; the rest is read and written by sync/atomic alone.
type shared[S any] struct {
	layout
	object    Plain[S]
	toggles   []word
	announced [][3]word
	pool      []record[S]
	published publishedWord
}

func newShared[S any](object Plain[S], threads int) *shared[S] {
	l := layout{threads: threads}
	s := &shared[S]{
		layout:    l,
		object:    object,
		toggles:   make([]word, l.toggleWords()),
		announced: make([][3]word, threads),
		pool:      make([]record[S], 2*threads+1),
	}
	for i := range s.pool {
		s.pool[i].words = make([]word, l.recordWords())
	}
	first := version[S]{state: object.First(), last: &batch{}}
	s.pool[0].state.Store(&edition[S]{now: first, from: first})
	return s
}

// newest tells the version that is published.
func (s *shared[S]) newest() version[S] { return s.versionSince(s.published.read()) }

// versionSince tells a version that has been published since the publication was seen, or by it, without waiting for a moment at which nobody publishes.
// The record may have been written anew since then, but only behind a later publication of its owner. What stands there now may never be published; but what it was made from has been.
func (s *shared[S]) versionSince(seen publication) version[S] {
	found := s.pool[seen.record()].state.Load()
	if found.now.last.number == seen.stamp() {
		return found.now
	}
	return found.from
}

// order tells the operations of all batches up to last. Nobody announces which of a thread's operations it is: as each is applied once, and ahead of the next, counting tells it.
func (s *shared[S]) order(last *batch) []api.Mark {
	var batches []*batch
	for b := last; b != nil; b = b.before {
		batches = append(batches, b)
	}
	var marks []api.Mark
	counts := make([]int, s.threads)
	for i := len(batches) - 1; i >= 0; i-- {
		for _, thread := range batches[i].threads {
			marks = append(marks, api.Mark{Batch: batches[i].number, Thread: thread, Seq: counts[thread]})
			counts[thread]++
		}
	}
	return marks
}
