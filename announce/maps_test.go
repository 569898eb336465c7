package announce_test

import (
	"math"
	"slices"
	"testing"

	"announce/api"
)

func store(key, value int) api.Op { return api.Op{Code: api.Store, A: key, B: value} }

func load(key int) api.Op { return api.Op{Code: api.Load, A: key} }

func remove(key int) api.Op { return api.Op{Code: api.Remove, A: key} }

// P4, P8: the document's fourth example, and a map's other edges: keys that are not there, and one that is removed and stored again.
func TestMap(t *testing.T) {
	o := fresh(t, config(api.Map, 1, 0))
	holds(t, o)
	does(t, o, 0, load(3), none())
	does(t, o, 0, remove(3), none())
	does(t, o, 0, store(3, 30), none())
	does(t, o, 0, store(3, 31), done(30))
	does(t, o, 0, load(4), none())
	does(t, o, 0, store(-1, 5), none())
	holds(t, o, -1, 5, 3, 31)
	does(t, o, 0, api.Op{Code: api.Load, A: 3, B: 8}, done(31))
	does(t, o, 0, api.Op{Code: api.Remove, A: 3, B: 8}, done(31))
	does(t, o, 0, load(3), none())
	does(t, o, 0, remove(3), none())
	holds(t, o, -1, 5)
	does(t, o, 0, store(3, 32), none())
	does(t, o, 0, load(3), done(32))
	does(t, o, 0, store(0, 0), none())
	does(t, o, 0, store(0, 0), done(0))
	does(t, o, 0, load(0), done(0))
	does(t, o, 0, store(math.MaxInt, math.MinInt), none())
	does(t, o, 0, store(math.MinInt, math.MaxInt), none())
	holds(t, o, math.MinInt, math.MaxInt, -1, 5, 0, 0, 3, 32, math.MaxInt, math.MinInt)
	does(t, o, 0, remove(math.MaxInt), done(math.MinInt))
	does(t, o, 0, load(math.MinInt), done(math.MaxInt))
	for _, key := range []int{math.MinInt, 3, 0, -1} {
		o.Do(0, remove(key))
		does(t, o, 0, load(key), none())
	}
	holds(t, o)
}

// P4, P5, P8: codes that are none, at a key that is there and at one that is not.
func TestMapBadCodes(t *testing.T) {
	changeNothing(t, api.Map, []api.Op{store(2, 7), store(1, 8), remove(1)}, 0, -1, 4, 5, 9, math.MaxInt, math.MinInt)
}

// P6 to P8: the steps of an operation are as many, whatever the object holds.
func TestMapSteps(t *testing.T) {
	takesEffect(t, api.Map, load(1), remove(1), store(1, 5), store(2, 6), store(0, 7), load(2), api.Op{Code: 4, A: 1}, store(1, 8), remove(1), load(1), remove(1), store(1, 9))
}

// P7, P8: whoever comes does what all have announced.
func TestMapTogether(t *testing.T) {
	doneTogether(t, api.Map,
		[]api.Op{load(1), store(1, 5), store(1, 6), load(1), {Code: 4, A: 1}, remove(1), load(1), remove(1), store(1, 7), store(0, 8)},
		[]api.Answer{none(), none(), done(5), done(6), badOp(), done(6), none(), none(), none(), none()},
		0, 8, 1, 7)
}

// P7: an attempt that fails has stored and removed on its copy alone.
func TestMapFailedAttempt(t *testing.T) {
	ahead := []api.Op{store(2, 20), store(1, 10), store(3, 30)}
	for _, c := range []rivals{
		{api.Map, ahead, store(2, 21), store(2, 22), []int{1, 10, 2, 22, 3, 30}, [2]api.Answer{done(20), done(21)}},
		{api.Map, ahead, store(2, 21), remove(2), []int{1, 10, 3, 30}, [2]api.Answer{done(20), done(21)}},
		{api.Map, ahead, remove(2), store(2, 22), []int{1, 10, 2, 22, 3, 30}, [2]api.Answer{done(20), none()}},
		{api.Map, ahead, remove(2), remove(2), []int{1, 10, 3, 30}, [2]api.Answer{done(20), none()}},
		{api.Map, ahead, store(4, 40), load(4), []int{1, 10, 2, 20, 3, 30, 4, 40}, [2]api.Answer{none(), done(40)}},
		{api.Map, ahead, load(2), remove(1), []int{2, 20, 3, 30}, [2]api.Answer{done(20), done(10)}},
		{api.Map, nil, store(1, 1), remove(1), nil, [2]api.Answer{none(), done(1)}},
	} {
		failsOnItsCopy(t, c)
	}
}

// P6, P8: an operation that both attempts were too slow for is done by others, once.
func TestMapOvertaken(t *testing.T) {
	isOvertaken(t, api.Map, none(), 1, 0, 10, 0)
}

// P4, P9: many keys, in an order that leans a tree to one side: an operation takes no more steps for them.
func TestMapIsLarge(t *testing.T) {
	const many = 20000
	o := fresh(t, config(api.Map, 1, 0))
	var want []int
	for key := range many {
		does(t, o, 0, store(key, -key), none())
		want = append(want, key, -key)
	}
	if l := o.State(); !slices.Equal(l, want) {
		t.Fatalf("P8: State has %d numbers, and is not the %d that were stored", len(l), len(want))
	}
	for key := range many {
		begins(t, o, 0, remove(key))
		ends(t, o, 0, 4+1+4+1+1+3+4+1+3, done(-key))
	}
	holds(t, o)
}
