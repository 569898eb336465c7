package plain

import (
	"math"
	"slices"
	"testing"

	"announce/api"
)

// flip is the document's fifth example.
func flip() api.Automaton {
	return api.Automaton{States: 2, Codes: 2, Next: []int{1, 0, 0, 1}, Out: []int{7, 8, 9, 10}}
}

// P4: from each state each code leads where the automaton says, and answers what it says; A and B mean nothing.
func TestTable(t *testing.T) {
	uneven := api.Automaton{States: 3, Codes: 2, Next: []int{2, 1, 0, 0, 1, 2}, Out: []int{0, -1, math.MaxInt, math.MinInt, 4, 4}}
	wide := api.Automaton{States: 2, Codes: 3, Next: []int{1, 1, 0, 0, 1, 0}, Out: []int{3, 1, 4, 1, 5, 9}}
	one := api.Automaton{States: 1, Codes: 1, Next: []int{0}, Out: []int{5}}
	for _, a := range []api.Automaton{flip(), uneven, wide, one} {
		o := NewTable(a)
		for state := range a.States {
			for code := range a.Codes {
				next, answer := o.Apply(state, api.Op{Code: code, A: 3, B: 4})
				if at := state*a.Codes + code; next != a.Next[at] || answer != done(a.Out[at]) {
					t.Errorf("P4: %+v: the code %d at %d: %d, %+v", a, code, state, next, answer)
				}
			}
			for _, code := range []int{-1, a.Codes, a.Codes + 1, math.MaxInt, math.MinInt} {
				if next, answer := o.Apply(state, api.Op{Code: code, A: 3, B: 4}); next != state || answer != badOp() {
					t.Errorf("P4: %+v: the code %d at %d: %d, %+v", a, code, state, next, answer)
				}
			}
		}
	}
}

// P4, P8: a table is in the state 0 at first, and tells its state in a list that is new each time.
func TestTableTells(t *testing.T) {
	o := NewTable(flip())
	if first := o.First(); first != 0 {
		t.Errorf("P4: at first %d", first)
	}
	newLists(t, o, 1)
	if l := o.Tell(1); !slices.Equal(l, []int{1}) {
		t.Errorf("P8: %v", l)
	}
}

// P2: of what is handed in nothing is kept or written into.
func TestTableKeepsNothing(t *testing.T) {
	a := flip()
	o := NewTable(a)
	for i := range a.Next {
		a.Next[i], a.Out[i] = 1, 99
	}
	want := flip()
	for state := range 2 {
		for code := range 2 {
			next, answer := o.Apply(state, api.Op{Code: code})
			if at := 2*state + code; next != want.Next[at] || answer != done(want.Out[at]) {
				t.Errorf("P2: the code %d at %d: %d, %+v", code, state, next, answer)
			}
		}
	}
	if !slices.Equal(a.Next, []int{1, 1, 1, 1}) || !slices.Equal(a.Out, []int{99, 99, 99, 99}) {
		t.Errorf("P2: the automaton has become %v, %v", a.Next, a.Out)
	}
}
