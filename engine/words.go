package engine

import (
	"sync/atomic"

	"announce/api"
)

// word is a number that threads share.
type word struct{ atomic.Int64 }

func (w *word) read() int { return int(w.Load()) }

func (w *word) write(number int) { w.Store(int64(number)) }

// publication is a stamp and the number of a record. They are one number, so that one step reads, or replaces, both.
type publication int64

// poolMost is how many records a pool has at most: what a stamp is multiplied by, to leave room for a record's number.
const poolMost = 2*api.MaxThreads + 1

func (p publication) stamp() int { return int(p / poolMost) }

func (p publication) record() int { return int(p % poolMost) }

// next is the publication of a record behind this one.
func (p publication) next(record int) publication {
	return publication((p.stamp()+1)*poolMost + record)
}

// publishedWord has the newest publication. As 0 it has the stamp 0 and record 0.
type publishedWord struct{ atomic.Int64 }

func (w *publishedWord) read() publication { return publication(w.Load()) }

func (w *publishedWord) replace(old, next publication) bool {
	return w.CompareAndSwap(int64(old), int64(next))
}

// statePart is the part of a record that has the state.
type statePart[S any] struct{ atomic.Pointer[edition[S]] }
