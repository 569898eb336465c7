package plain

import (
	"math"
	"slices"
	"testing"

	"announce/api"
)

// P4: what a counter answers, and which codes it does not know.
func TestCounter(t *testing.T) {
	for _, c := range []struct {
		sum    int
		op     api.Op
		next   int
		answer api.Answer
	}{
		{0, api.Op{Code: api.Add, A: 5, B: 9}, 5, api.Answer{Status: api.Done, Value: 5}},
		{5, api.Op{Code: api.Add, A: -7}, -2, api.Answer{Status: api.Done, Value: -2}},
		{5, api.Op{Code: api.Add}, 5, api.Answer{Status: api.Done, Value: 5}},
		{math.MaxInt, api.Op{Code: api.Add, A: 1}, math.MinInt, api.Answer{Status: api.Done, Value: math.MinInt}},
		{math.MinInt, api.Op{Code: api.Add, A: -1}, math.MaxInt, api.Answer{Status: api.Done, Value: math.MaxInt}},
		{8, api.Op{Code: api.Sum, A: 3, B: 4}, 8, api.Answer{Status: api.Done, Value: 8}},
		{8, api.Op{Code: 0, A: 3, B: 4}, 8, badOp()},
		{8, api.Op{Code: 3, A: 3, B: 4}, 8, badOp()},
		{8, api.Op{Code: -1, A: 3, B: 4}, 8, badOp()},
		{8, api.Op{Code: math.MaxInt, A: 3}, 8, badOp()},
		{8, api.Op{Code: math.MinInt, A: 3}, 8, badOp()},
	} {
		if next, answer := (Counter{}).Apply(c.sum, c.op); next != c.next || answer != c.answer {
			t.Errorf("P4: %+v at %d: %d, %+v, want %d, %+v", c.op, c.sum, next, answer, c.next, c.answer)
		}
	}
}

// P4, P8: a counter is 0 at first, and tells its sum in a list that is new each time.
func TestCounterTells(t *testing.T) {
	if first := (Counter{}).First(); first != 0 {
		t.Errorf("P4: at first %d", first)
	}
	one, other := Counter{}.Tell(7), Counter{}.Tell(7)
	one[0] = 1
	if !slices.Equal(other, []int{7}) {
		t.Errorf("P2, P8: %v", other)
	}
}
