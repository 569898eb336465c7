package announce_test

import (
	"testing"

	"announce/announce"
	"announce/api"
)

// With two threads: an attempt up to its second look, and one with that many pending threads.
const toCheck = 1 + 6 + 1 + 1

func attempt(pending int) int { return toCheck + 3*pending + 6 + 1 }

// P6 to P8: the document's first and second example.
func TestExamples1And2(t *testing.T) {
	o := fresh(t, counter(2, 0))
	begins(t, o, 0, add(5))
	moves(t, o, 0, 22)
	tells(t, o, 0)
	moves(t, o, 0, 1) // publishes
	tells(t, o, 5, mark(1, 0, 0))
	ends(t, o, 0, 3, done(5))

	begins(t, o, 0, add(1))
	begins(t, o, 1, add(10))
	moves(t, o, 0, 4)
	moves(t, o, 1, 4)
	ends(t, o, 0, 22+3, done(6))
	tells(t, o, 16, mark(1, 0, 0), mark(2, 0, 1), mark(2, 1, 0))
	ends(t, o, 1, 9+3, done(16))
	tells(t, o, 16, mark(1, 0, 0), mark(2, 0, 1), mark(2, 1, 0))
}

// P6, P7: the document's third example.
func TestExample3(t *testing.T) {
	o := fresh(t, counter(2, 3))
	begins(t, o, 0, add(1))
	begins(t, o, 1, add(1))
	moves(t, o, 0, 4)
	moves(t, o, 1, 4)
	moves(t, o, 0, 9)
	ends(t, o, 1, 22+3, done(2))
	ends(t, o, 0, 6+6+1+1+9+3, done(1))
	tells(t, o, 2, mark(1, 0, 0), mark(1, 1, 0))
}

// P7: an attempt takes as many steps as there are words of toggles, parts and pending threads; with nobody to overtake it the first one succeeds.
func TestAttemptSteps(t *testing.T) {
	for _, c := range []struct{ threads, words, parts int }{{1, 1, 4}, {2, 1, 6}, {16, 1, 34}, {17, 2, 37}, {64, 4, 133}} {
		for pending := 1; pending <= c.threads; pending++ {
			for _, kind := range kinds {
				o := fresh(t, config(kind, c.threads, 5))
				state, want := firstly(kind), api.Answer{}
				for thread := range pending - 1 {
					begins(t, o, thread, add(thread))
					moves(t, o, thread, 4)
					state, _ = plainly(kind, state, add(thread))
				}
				begins(t, o, c.threads-1, add(1))
				state, want = plainly(kind, state, add(1))
				steps := 1 + c.parts + c.words + 1 + 3*pending + c.parts + 1
				ends(t, o, c.threads-1, 4+steps+3, want)
				holds(t, o, state...)
			}
		}
	}
}

// P7: which threads are pending is what the toggles were when they were read: word by word.
func TestFlippedInBetween(t *testing.T) {
	for _, c := range []struct {
		steps int // of the attempt of thread 0, till threads 1 and 16 flip
		marks []api.Mark
	}{
		{1 + 37, []api.Mark{mark(1, 0, 0), mark(1, 1, 0), mark(1, 16, 0)}},
		{1 + 37 + 1, []api.Mark{mark(1, 0, 0), mark(1, 16, 0)}},
		{1 + 37 + 2, []api.Mark{mark(1, 0, 0)}},
	} {
		o := fresh(t, counter(17, 0))
		begins(t, o, 0, add(1))
		moves(t, o, 0, 4+c.steps)
		for _, thread := range []int{1, 16} {
			begins(t, o, thread, add(1))
			moves(t, o, thread, 4)
		}
		pending := len(c.marks)
		ends(t, o, 0, 1+37+2+1+3*pending+37+1+3-c.steps, done(1))
		tells(t, o, pending, c.marks...)
	}
}

// P6: what is announced, but not flipped yet, is not done by others.
func TestAnnouncedOnly(t *testing.T) {
	for steps := range 4 {
		o := fresh(t, counter(2, 0))
		begins(t, o, 1, add(10))
		moves(t, o, 1, steps)
		begins(t, o, 0, add(1))
		ends(t, o, 0, 4+attempt(1)+3, done(1))
		tells(t, o, 1, mark(1, 0, 0))
		ends(t, o, 1, 4-steps+attempt(1)+3, done(11))
	}
}

// P7: a thread that is not pending itself is spared, and leaves those that are to themselves.
func TestSparedWhileOthersPend(t *testing.T) {
	const parts = 1 + 2*3 + 1
	for _, kind := range kinds {
		o := fresh(t, config(kind, 3, 0))
		begins(t, o, 0, add(1))
		moves(t, o, 0, 4)
		state, want := plainly(kind, firstly(kind), add(1))
		o.Do(1, add(10))
		state, _ = plainly(kind, state, add(10))
		begins(t, o, 2, add(100))
		moves(t, o, 2, 4)
		ends(t, o, 0, 1+parts+1+1+3, want)
		holds(t, o, state...)
		ordered(t, o, mark(1, 0, 0), mark(1, 1, 0))
	}
}

// P7: an attempt fails at its second look, if another one was published up to then, and else at publishing.
func TestWhereItFails(t *testing.T) {
	for steps := 1; steps < attempt(2); steps++ {
		o := fresh(t, counter(2, 0))
		begins(t, o, 0, add(1))
		begins(t, o, 1, add(10))
		moves(t, o, 1, 4)
		moves(t, o, 0, 4+steps)
		ends(t, o, 1, attempt(2)+3, done(11))
		rest := attempt(2)
		if steps < toCheck {
			rest = toCheck
		}
		ends(t, o, 0, rest-steps+toCheck+3, done(1))
		tells(t, o, 11, mark(1, 0, 0), mark(1, 1, 0))
	}
}

// overtakeTwice lets both attempts of an operation of thread 0 fail: the first one by an attempt of thread 1 that had read the toggles ahead of the flip, the second one by thread 1's next operation, which does both.
// backoffs: what thread 0's is ahead of the first and of the second attempt; late: whether the attempts fail at publishing, and not at the second look. The answer: how many steps thread 0 took.
func overtakeTwice(t *testing.T, o *announce.Object, backoffs [2]int, late bool) int {
	t.Helper()
	begins(t, o, 1, add(10))
	moves(t, o, 1, 4+attempt(1)-1)
	begins(t, o, 0, add(1))
	failing := toCheck
	if late {
		failing = attempt(2)
	}
	moves(t, o, 0, 4+backoffs[0]+failing-1)
	moves(t, o, 1, 1+2)
	o.Step(1)
	begins(t, o, 1, add(10))
	moves(t, o, 1, 4)
	moves(t, o, 0, 1+backoffs[1]+failing-1)
	moves(t, o, 1, attempt(2)+2)
	o.Step(1)
	moves(t, o, 0, 1+2)
	if how, err := o.Step(0); how != api.Ended || err != api.OK {
		t.Fatalf("P6: behind two attempts that failed, the last step = %d, %d, want Ended", how, err)
	}
	return 4 + backoffs[0] + failing + backoffs[1] + failing + 3
}

// P6: each attempt that fails doubles the backoff and adds one, up to Cap; each that succeeds halves it.
func TestBackoff(t *testing.T) {
	for _, c := range []struct{ most, afterTwo, afterFour int }{
		{0, 0, 0}, {1, 1, 1}, {2, 2, 2}, {3, 3, 3}, {4, 3, 4}, {9, 3, 9}, {15, 3, 15}, {64, 3, 15},
	} {
		for _, late := range []bool{false, true} {
			o := fresh(t, counter(2, c.most))
			overtakeTwice(t, o, [2]int{0, min(1, c.most)}, late)
			answers(t, o, 0, done(11))
			overtakeTwice(t, o, [2]int{c.afterTwo, min(2*c.afterTwo+1, c.most)}, late)
			answers(t, o, 0, done(32))
			sum := 42
			for backoff := c.afterFour; ; backoff /= 2 {
				sum++
				begins(t, o, 0, add(1))
				ends(t, o, 0, 4+backoff+attempt(1)+3, done(sum))
				if backoff == 0 {
					break
				}
			}
			// thread 1 has never failed
			begins(t, o, 1, add(1))
			ends(t, o, 1, 4+attempt(1)+3, done(sum+1))
		}
	}
}

// P6: an attempt that is spared leaves the backoff as it is.
func TestSparedBackoff(t *testing.T) {
	o := fresh(t, counter(2, 64))
	overtakeTwice(t, o, [2]int{0, 1}, true)
	sum := 21
	for range 3 {
		begins(t, o, 0, add(1))
		moves(t, o, 0, 4)
		does(t, o, 1, add(1), done(sum+2))
		ends(t, o, 0, 3+toCheck+3, done(sum+1))
		sum += 2
	}
}

// P6: while a thread waits, others may do its operation.
func TestDoneWhileWaiting(t *testing.T) {
	for wait := range 4 {
		o := fresh(t, counter(2, 3))
		overtakeTwice(t, o, [2]int{0, 1}, true)
		begins(t, o, 0, add(1))
		moves(t, o, 0, 4+wait)
		begins(t, o, 1, add(1))
		ends(t, o, 1, 4+attempt(2)+3, done(23))
		ends(t, o, 0, 3-wait+toCheck+3, done(22))
	}
}
