package plain

import (
	"math"
	"math/rand"
	"slices"
	"testing"

	"announce/api"
)

// object is what the engine takes.
type object[S any] interface {
	First() S
	Apply(state S, op api.Op) (S, api.Answer)
	Tell(state S) []int
}

// deed is an operation, what it answers, and what the object tells then.
type deed struct {
	op     api.Op
	answer api.Answer
	told   []int
}

// does goes through deeds, from a new object on.
func does[S any](t *testing.T, o object[S], deeds ...deed) {
	t.Helper()
	state := o.First()
	if l := o.Tell(state); len(l) != 0 {
		t.Errorf("P4: at first %v", l)
	}
	for _, d := range deeds {
		next, answer := o.Apply(state, d.op)
		if l := o.Tell(next); answer != d.answer || !slices.Equal(l, d.told) {
			t.Errorf("P4: %+v at %v: %+v, %v, want %+v, %v", d.op, o.Tell(state), answer, l, d.answer, d.told)
		}
		state = next
	}
}

// branches lets operations be applied to any state that there ever was: none of them becomes another by it, and each answer hangs on its own state alone.
// lay: how a list becomes longer by a value.
func branches[S any](t *testing.T, o object[S], lay func(values []int, a int) []int) {
	t.Helper()
	r := rand.New(rand.NewSource(3))
	states, told := []S{o.First()}, [][]int{nil}
	for range 3000 {
		from := len(states) - 1 - r.Intn(min(len(states), 1+r.Intn(40)))
		op := api.Op{Code: []int{0, 1, 1, 1, 2, 2, 2, 3}[r.Intn(8)], A: r.Intn(1000), B: r.Intn(1000)}
		next, answer := o.Apply(states[from], op)
		should, want := applyTo(told[from], op, lay)
		if answer != want {
			t.Fatalf("P4: %+v at %v: %+v, want %+v", op, told[from], answer, want)
		}
		states, told = append(states, next), append(told, should)
	}
	for i, state := range states {
		if l := o.Tell(state); !slices.Equal(l, told[i]) {
			t.Fatalf("a state has become %v, and was %v", l, told[i])
		}
	}
}

// applyTo does an operation on a list, told straight from P4: the first value is what is taken, of a stack and of a queue.
func applyTo(values []int, op api.Op, lay func(values []int, a int) []int) ([]int, api.Answer) {
	switch {
	case op.Code == 1:
		return lay(values, op.A), done(len(values) + 1)
	case op.Code != 2:
		return values, api.Answer{Status: api.BadOp}
	case len(values) == 0:
		return values, api.Answer{Status: api.Empty}
	}
	return values[1:], done(values[0])
}

// newLists: what is told is new memory each time, its spare room too.
func newLists[S any](t *testing.T, o object[S], state S) {
	t.Helper()
	one, other := o.Tell(state), o.Tell(state)
	was := slices.Clone(other)
	for i := range one[:cap(one)] {
		one[:cap(one)][i] = 77
	}
	if now := o.Tell(state); !slices.Equal(other, was) || !slices.Equal(now, was) {
		t.Errorf("P2: told %v, and then %v; it was %v", other, now, was)
	}
}

// badCodes: none of them is a code of an object that has two.
func badCodes() []int { return []int{0, -1, 3, 9, math.MaxInt, math.MinInt} }
