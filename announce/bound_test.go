package announce_test

import (
	"testing"

	"announce/announce"
	"announce/api"
)

// P9: the bound, by the document's rule.
func TestBound(t *testing.T) {
	for _, c := range []struct{ threads, most, bound int }{
		{1, 0, 37}, {2, 0, 51}, {2, 3, 57}, {16, 0, 247}, {17, 5, 277}, {64, 0, 937}, {64, 64, 1065},
	} {
		for _, kind := range kinds {
			o := fresh(t, config(kind, c.threads, c.most))
			o.Do(0, add(1)) // what the object holds is one part of a record, however much it is
			if n := o.Bound(); n != c.bound {
				t.Errorf("P9: kind %d, %d threads, Cap %d: Bound = %d, want %d", kind, c.threads, c.most, n, c.bound)
			}
		}
	}
}

// P9: an operation can take as many steps as the bound says: both attempts fail at publishing, with all threads pending and the backoff at Cap.
func TestBoundIsReached(t *testing.T) {
	for _, kind := range kinds {
		for _, most := range []int{0, 1, 3, 7, 15} {
			o := fresh(t, config(kind, 2, most))
			for range 3 {
				backoff := min(most, sparedWait(t, o))
				overtakeTwice(t, o, [2]int{backoff, min(2*backoff+1, most)}, true)
			}
			if n := overtakeTwice(t, o, [2]int{most, most}, true); n != o.Bound() {
				t.Errorf("P9: kind %d, Cap %d: the operation took %d steps, Bound = %d", kind, most, n, o.Bound())
			}
		}
	}
}

// sparedWait tells the backoff of thread 0, by an operation that leaves it as it is.
func sparedWait(t *testing.T, o *announce.Object) int {
	t.Helper()
	begins(t, o, 0, api.Op{})
	moves(t, o, 0, 4)
	o.Do(1, api.Op{})
	steps := 1
	for how, _ := o.Step(0); how == api.Moved; how, _ = o.Step(0) {
		steps++
	}
	return steps - toCheck - 3
}

// P9: others may stop wherever they are: an operation ends all the same, and within the bound.
func TestOthersStop(t *testing.T) {
	for _, kind := range kinds {
		for first := range 30 {
			for second := range 30 {
				othersStop(t, kind, first, second)
			}
		}
	}
}

func othersStop(t *testing.T, kind, first, second int) {
	t.Helper()
	o := fresh(t, config(kind, 3, 2))
	goOn(o, 1, first)
	goOn(o, 2, second)
	for k := range 3 {
		begins(t, o, 0, add(1))
		steps := 1
		for how, _ := o.Step(0); how == api.Moved && steps <= o.Bound(); how, _ = o.Step(0) {
			steps++
		}
		if steps > o.Bound() {
			t.Fatalf("P9: kind %d: the others stopped behind %d and %d steps: operation %d takes more than %d", kind, first, second, k, o.Bound())
		}
	}
	marks := o.Order()
	if first >= 4 && !containsThread(marks, 1) || second >= 4 && !containsThread(marks, 2) {
		t.Fatalf("P12: kind %d: the others stopped behind %d and %d steps: the order is %v", kind, first, second, marks)
	}
}

// goOn lets a thread do steps of one operation behind the other.
func goOn(o *announce.Object, thread, steps int) {
	for range steps {
		o.Begin(thread, add(10))
		o.Step(thread)
	}
}

func containsThread(marks []api.Mark, thread int) bool {
	for _, m := range marks {
		if m.Thread == thread {
			return true
		}
	}
	return false
}
