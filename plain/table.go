package plain

import (
	"slices"

	"announce/api"
)

// Table is an automaton, with the number of the state that it is in as its state.
type Table struct{ api.Automaton }

// NewTable takes an automaton that is sound: New refuses others. Its lists are copied, as whoever handed them in may write into them later.
func NewTable(a api.Automaton) Table {
	a.Next, a.Out = slices.Clone(a.Next), slices.Clone(a.Out)
	return Table{a}
}

// First is the state 0.
func (Table) First() int { return 0 }

// Apply goes from a state to the next one (P4).
func (t Table) Apply(state int, op api.Op) (int, api.Answer) {
	if op.Code < 0 || op.Code >= t.Codes {
		return state, badOp()
	}
	at := state*t.Codes + op.Code
	return t.Next[at], done(t.Out[at])
}

// Tell is the state as a list (P8).
func (Table) Tell(state int) []int { return []int{state} }
