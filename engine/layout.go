package engine

import "announce/api"

// layout says where, among the words of a record, a thread has its own.
type layout struct{ threads int }

// toggleWords is the document's W.
func (l layout) toggleWords() int { return (l.threads + api.WordBits - 1) / api.WordBits }

// recordWords is how many parts of a record are numbers: all but the state.
func (l layout) recordWords() int { return l.toggleWords() + 2*l.threads }

// parts is the document's R.
func (l layout) parts() int { return l.recordWords() + 1 }

func (l layout) statusAt(thread int) int { return l.toggleWords() + thread }

func (l layout) valueAt(thread int) int { return l.toggleWords() + l.threads + thread }

// toggleAt tells the word in which a thread has its bit, and what the bit is worth there.
func toggleAt(thread int) (index, worth int) {
	return thread / api.WordBits, 1 << (thread % api.WordBits)
}

// hasBit looks into toggles and into applied bits alike: both are laid the same way.
func hasBit(words []int, thread int) bool {
	index, worth := toggleAt(thread)
	return words[index]&worth != 0
}
