package announce_test

import (
	"math"
	"testing"

	"announce/api"
)

func code(c int) api.Op { return api.Op{Code: c, A: 3, B: 4} }

// tableOf has the entries' numbers as answers, and as next states what the rule says.
func tableOf(states, codes int, next func(state, code int) int) api.Automaton {
	a := api.Automaton{States: states, Codes: codes}
	for state := range states {
		for c := range codes {
			a.Next, a.Out = append(a.Next, next(state, c)), append(a.Out, state*codes+c)
		}
	}
	return a
}

// P4, P8: the document's fifth example.
func TestExample5(t *testing.T) {
	o := fresh(t, api.Config{Kind: api.Table, Threads: 1, Automaton: api.Automaton{States: 2, Codes: 2, Next: []int{1, 0, 0, 1}, Out: []int{7, 8, 9, 10}}})
	holds(t, o, 0)
	does(t, o, 0, code(0), done(7))
	holds(t, o, 1)
	does(t, o, 0, code(0), done(9))
	holds(t, o, 0)
	does(t, o, 0, code(1), done(8))
	holds(t, o, 0)
	does(t, o, 0, code(2), badOp())
	holds(t, o, 0)
	does(t, o, 0, code(0), done(7))
	does(t, o, 0, code(1), done(10))
	does(t, o, 0, code(-1), badOp())
	holds(t, o, 1)
}

// P3, P4: an automaton of one state, and of one code, too.
func TestSmallTable(t *testing.T) {
	one := fresh(t, api.Config{Kind: api.Table, Threads: 1, Automaton: api.Automaton{States: 1, Codes: 2, Next: []int{0, 0}, Out: []int{math.MinInt, math.MaxInt}}})
	for range 2 {
		does(t, one, 0, code(0), done(math.MinInt))
		does(t, one, 0, code(1), done(math.MaxInt))
		does(t, one, 0, code(2), badOp())
		holds(t, one, 0)
	}
	ring := fresh(t, api.Config{Kind: api.Table, Threads: 1, Automaton: api.Automaton{States: 3, Codes: 1, Next: []int{1, 2, 0}, Out: []int{5, 0, -5}}})
	for range 2 {
		for state, out := range []int{5, 0, -5} {
			holds(t, ring, state)
			does(t, ring, 0, code(1), badOp())
			does(t, ring, 0, code(0), done(out))
		}
	}
}

// P3, P4: an automaton of MaxStates and MaxCodes: every entry of it.
func TestLargeTable(t *testing.T) {
	leads := func(state, code int) int { return (5*state + 11*code + 1) % api.MaxStates }
	o := fresh(t, api.Config{Kind: api.Table, Threads: 2, Automaton: tableOf(api.MaxStates, api.MaxCodes, leads)})
	state, seen := 0, map[[2]int]int{}
	var counts [api.MaxStates]int // how often each state was left: each time by the next code
	for range 100000 {
		c := counts[state] % api.MaxCodes
		counts[state]++
		seen[[2]int{state, c}]++
		does(t, o, 0, code(c), done(state*api.MaxCodes+c))
		state = leads(state, c)
		if len(seen) == api.MaxStates*api.MaxCodes {
			break
		}
	}
	if len(seen) != api.MaxStates*api.MaxCodes {
		t.Errorf("%d entries were seen", len(seen))
	}
	holds(t, o, state)
	does(t, o, 1, code(api.MaxCodes), badOp())
	holds(t, o, state)
}

// P4, P5, P8: codes that are none, in whatever state.
func TestTableBadCodes(t *testing.T) {
	changeNothing(t, api.Table, []api.Op{code(0), code(0), code(0), code(0)}, -1, 3, 4, 16, math.MaxInt, math.MinInt)
}

// P6 to P8: the steps of an operation are as many, whatever the state is.
func TestTableSteps(t *testing.T) {
	takesEffect(t, api.Table, code(0), code(1), code(2), code(3), code(0), code(2), code(1), code(-1), code(1), code(1))
}

// P7, P8: whoever comes does what all have announced.
func TestTableTogether(t *testing.T) {
	doneTogether(t, api.Table,
		[]api.Op{code(1), code(0), code(2), code(3), code(1), code(0), code(-1), code(2)},
		[]api.Answer{done(21), done(40), done(22), badOp(), done(51), done(60), badOp(), done(52)},
		0)
}

// P7: an attempt that fails has gone on on its copy alone.
func TestTableFailedAttempt(t *testing.T) {
	for _, c := range []rivals{
		{api.Table, nil, code(1), code(2), []int{2}, [2]api.Answer{done(21), done(42)}},
		{api.Table, nil, code(2), code(1), []int{4}, [2]api.Answer{done(22), done(51)}},
		{api.Table, []api.Op{code(0)}, code(0), code(0), []int{3}, [2]api.Answer{done(30), done(60)}},
		{api.Table, []api.Op{code(0)}, code(3), code(1), []int{0}, [2]api.Answer{badOp(), done(31)}},
	} {
		failsOnItsCopy(t, c)
	}
}

// P6, P8: an operation that both attempts were too slow for is done by others, once.
func TestTableOvertaken(t *testing.T) {
	isOvertaken(t, api.Table, done(41), 4)
}
