package plain

import (
	"math"
	"math/rand"
	"slices"
	"testing"

	"announce/api"
)

// object is what the engine takes.
type object[S any] interface {
	First() S
	Apply(state S, op api.Op) (S, api.Answer)
	Tell(state S) []int
}

// deed is an operation, what it answers, and what the object tells then.
type deed struct {
	op     api.Op
	answer api.Answer
	told   []int
}

// does goes through deeds, from a new object on.
func does[S any](t *testing.T, o object[S], deeds ...deed) {
	t.Helper()
	state := o.First()
	if l := o.Tell(state); len(l) != 0 {
		t.Errorf("P4: at first %v", l)
	}
	for _, d := range deeds {
		next, answer := o.Apply(state, d.op)
		if l := o.Tell(next); answer != d.answer || !slices.Equal(l, d.told) {
			t.Errorf("P4: %+v at %v: %+v, %v, want %+v, %v", d.op, o.Tell(state), answer, l, d.answer, d.told)
		}
		state = next
	}
}

// branches lets operations be applied to any state that there ever was: none of them becomes another by it, and each answer hangs on its own state alone.
// plainly: an operation done on what an object tells, straight from P4.
func branches[S any](t *testing.T, o object[S], plainly func(told []int, op api.Op) ([]int, api.Answer)) {
	t.Helper()
	r := rand.New(rand.NewSource(3))
	states, told := []S{o.First()}, [][]int{nil}
	for range 5000 {
		from := len(states) - 1 - r.Intn(min(len(states), 1+r.Intn(40)))
		op := api.Op{Code: []int{0, 1, 1, 1, 1, 2, 2, 2, 3, 3, 4}[r.Intn(11)], A: r.Intn(40) - 20, B: r.Intn(1000)}
		next, answer := o.Apply(states[from], op)
		should, want := plainly(told[from], op)
		if answer != want {
			t.Fatalf("P4: %+v at %v: %+v, want %+v", op, told[from], answer, want)
		}
		states, told = append(states, next), append(told, should)
	}
	for i, state := range states {
		if l := o.Tell(state); !slices.Equal(l, told[i]) {
			t.Fatalf("a state has become %v, and was %v", l, told[i])
		}
	}
}

// listDoes is a stack or a queue: the first value is what is taken, of both; they differ in what they are with one value more.
func listDoes(lay func(values []int, a int) []int) func(values []int, op api.Op) ([]int, api.Answer) {
	return func(values []int, op api.Op) ([]int, api.Answer) {
		switch {
		case op.Code == 1:
			return lay(values, op.A), done(len(values) + 1)
		case op.Code != 2:
			return values, badOp()
		case len(values) == 0:
			return values, empty()
		}
		return values[1:], done(values[0])
	}
}

// newLists: what is told is new memory each time, its spare room too.
func newLists[S any](t *testing.T, o object[S], state S) {
	t.Helper()
	one, other := o.Tell(state), o.Tell(state)
	was := slices.Clone(other)
	for i := range one[:cap(one)] {
		one[:cap(one)][i] = 77
	}
	if now := o.Tell(state); !slices.Equal(other, was) || !slices.Equal(now, was) {
		t.Errorf("P2: told %v, and then %v; it was %v", other, now, was)
	}
}

// badCodes: none of them is a code of a stack or a queue.
func badCodes() []int { return []int{0, -1, 3, 9, math.MaxInt, math.MinInt} }

// P4: the answers that carry no value have none.
func TestAnswers(t *testing.T) {
	for _, c := range []struct{ got, want api.Answer }{
		{done(7), api.Answer{Status: api.Done, Value: 7}},
		{empty(), api.Answer{Status: api.Empty}},
		{none(), api.Answer{Status: api.None}},
		{badOp(), api.Answer{Status: api.BadOp}},
	} {
		if c.got != c.want {
			t.Errorf("P4: %+v, want %+v", c.got, c.want)
		}
	}
}
