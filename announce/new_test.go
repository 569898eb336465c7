package announce_test

import (
	"math"
	"testing"

	"announce/announce"
	"announce/api"
)

// P3: settings at the edges, and beyond them.
func TestNewConfig(t *testing.T) {
	for _, c := range []api.Config{
		counter(1, 0), counter(api.MaxThreads, 0), counter(1, api.MaxCap), counter(api.MaxThreads, api.MaxCap),
	} {
		for _, kind := range kinds {
			o := fresh(t, config(kind, c.Threads, c.Cap))
			holds(t, o, firstly(kind)...)
			ordered(t, o)
		}
	}
	for _, c := range []api.Config{
		{},
		{Kind: 0, Threads: 1}, {Kind: -1, Threads: 1}, {Kind: api.Table + 1, Threads: 1}, {Kind: math.MaxInt, Threads: 1}, {Kind: math.MinInt, Threads: 1},
		counter(0, 0), counter(-1, 0), counter(api.MaxThreads+1, 0), counter(math.MaxInt, 0), counter(math.MinInt, 0),
		counter(1, -1), counter(1, api.MaxCap+1), counter(1, math.MaxInt), counter(1, math.MinInt),
		stack(0, 0), stack(65, 0), stack(1, -1), stack(1, 65), queue(0, 0), queue(65, 0), queue(1, -1), queue(1, 65),
		config(api.Map, 0, 0), config(api.Map, 65, 0), config(api.Map, 1, -1), config(api.Map, 1, 65),
		config(api.Table, 0, 0), config(api.Table, 65, 0), config(api.Table, 1, -1), config(api.Table, 1, 65),
		{Kind: api.Table, Threads: 0}, {Kind: api.Table, Threads: 65}, {Kind: api.Table, Threads: 1, Cap: -1}, {Kind: api.Table, Threads: 1, Cap: 65}, // no table either: but this is named first
	} {
		if o, err := announce.New(c); o != nil || err != api.ErrConfig {
			t.Errorf("P1, P3: New(%+v) = %v, %d, want ErrConfig", c, o, err)
		}
	}
}

// P3: tables that are none.
func TestNewTable(t *testing.T) {
	for _, a := range []api.Automaton{
		{},
		{States: 0, Codes: 1}, {States: -1, Codes: -1, Next: []int{0}, Out: []int{0}},
		{States: 1, Codes: 0}, {States: 1, Codes: -1},
		{States: api.MaxStates + 1, Codes: 1, Next: make([]int, api.MaxStates+1), Out: make([]int, api.MaxStates+1)},
		{States: 1, Codes: api.MaxCodes + 1, Next: make([]int, api.MaxCodes+1), Out: make([]int, api.MaxCodes+1)},
		{States: math.MaxInt, Codes: math.MaxInt, Next: []int{0}, Out: []int{0}}, // the product wraps round to 1
		{States: math.MinInt, Codes: 2},
		{States: 2, Codes: 1, Next: []int{0}, Out: []int{0, 0}}, {States: 2, Codes: 1, Next: []int{0, 0, 0}, Out: []int{0, 0}},
		{States: 2, Codes: 1, Next: []int{0, 0}, Out: []int{0}}, {States: 2, Codes: 1, Next: []int{0, 0}, Out: []int{0, 0, 0}},
		{States: 2, Codes: 1, Next: nil, Out: []int{0, 0}}, {States: 2, Codes: 1, Next: []int{0, 0}},
		{States: 2, Codes: 1, Next: []int{0, 2}, Out: []int{0, 0}}, {States: 2, Codes: 1, Next: []int{-1, 0}, Out: []int{0, 0}},
		{States: 2, Codes: 1, Next: []int{0, math.MaxInt}, Out: []int{0, 0}}, {States: 2, Codes: 1, Next: []int{0, math.MinInt}, Out: []int{0, 0}},
		{States: 1, Codes: 2, Next: []int{0, 1}, Out: []int{0, 0}},
	} {
		if o, err := announce.New(api.Config{Kind: api.Table, Threads: 1, Automaton: a}); o != nil || err != api.ErrTable {
			t.Errorf("P1, P3: New with the automaton %+v = %v, %d, want ErrTable", a, o, err)
		}
		for _, kind := range []int{api.Counter, api.Stack, api.Queue, api.Map} {
			fresh(t, api.Config{Kind: kind, Threads: 1, Automaton: a}) // of other kinds it is not looked at
		}
	}
	for _, a := range []api.Automaton{
		{States: 1, Codes: 1, Next: []int{0}, Out: []int{math.MinInt}},
		{States: 2, Codes: 2, Next: []int{1, 0, 0, 1}, Out: []int{7, 8, 9, 10}},
		{States: api.MaxStates, Codes: 1, Next: make([]int, api.MaxStates), Out: make([]int, api.MaxStates)},
		{States: 1, Codes: api.MaxCodes, Next: make([]int, api.MaxCodes), Out: make([]int, api.MaxCodes)},
		{States: api.MaxStates, Codes: api.MaxCodes, Next: make([]int, api.MaxStates*api.MaxCodes), Out: make([]int, api.MaxStates*api.MaxCodes)},
	} {
		for _, threads := range []int{1, 16, 17, api.MaxThreads} {
			o := fresh(t, api.Config{Kind: api.Table, Threads: threads, Automaton: a})
			holds(t, o, 0)
			ordered(t, o)
		}
	}
}
