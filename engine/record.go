package engine

// batch is the threads whose operations were applied together, with the batches ahead of it. It is never changed once it is made.
type batch struct {
	number  int
	threads []int
	before  *batch
}

// version is a state and the last batch that led to it.
type version[S any] struct {
	state S
	last  *batch
}

// edition is what a record has as its state. It is never changed once it is made.
// It has the version that it was made from too, for those who find it ahead of its publication (see versionSince); not the edition, or all states there ever were would be kept.
type edition[S any] struct {
	now, from version[S]
}

// record is one of the pool: any thread may read it, its owner alone writes it.
type record[S any] struct {
	words []word // the applied bits, then the statuses, then the values
	state statePart[S]
}

// draft is a thread's own copy of a record.
type draft[S any] struct {
	words []int
	edition[S]
}

// readPart copies one part of a record. What is read here may not be published any more: whoever copies has to look again behind it.
func (r *record[S]) readPart(part int, into *draft[S]) {
	if part < len(r.words) {
		into.words[part] = r.words[part].read()
		return
	}
	now := r.state.Load().now
	into.edition = edition[S]{now: now, from: now}
}

// writePart writes one part of a draft into a record. The state is written as a new edition, as the draft goes on changing.
func (r *record[S]) writePart(part int, from *draft[S]) {
	if part < len(r.words) {
		r.words[part].write(from.words[part])
		return
	}
	made := from.edition
	r.state.Store(&made)
}
