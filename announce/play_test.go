package announce_test

import (
	"math"
	"slices"
	"testing"

	"announce/announce"
	"announce/api"
)

func times(count, pick int) []int { return slices.Repeat([]int{pick}, count) }

func plays(t *testing.T, c api.Config, programs [][]api.Op, picks []int) api.Tale {
	t.Helper()
	tale, err := announce.Play(c, programs, picks)
	if err != api.OK {
		t.Fatalf("P10: Play(%+v, %v, %v): %d", c, programs, picks, err)
	}
	return tale
}

func sameTale(a, b api.Tale) bool {
	return slices.EqualFunc(a.Answers, b.Answers, slices.Equal) && slices.Equal(a.Order, b.Order) && slices.Equal(a.State, b.State)
}

// scene is a play of an object of as many threads as there are programs, and what is told of it.
type scene struct {
	programs [][]api.Op
	picks    []int
	want     api.Tale
}

func (s scene) plays(t *testing.T, kind int) {
	t.Helper()
	if tale := plays(t, config(kind, len(s.programs), 0), s.programs, s.picks); !sameTale(tale, s.want) {
		t.Errorf("P10: kind %d: Play(%v, %v) = %+v, want %+v", kind, s.programs, s.picks, tale, s.want)
	}
}

// P10: the document's sixth example.
func TestExample6(t *testing.T) {
	programs := [][]api.Op{{add(5)}, {{Code: api.Sum}}}
	scene{programs, slices.Concat(times(26, 0), []int{7}, times(26, 1)), api.Tale{
		Answers: [][]api.Answer{{done(5)}, {done(5)}},
		Order:   []api.Mark{mark(1, 0, 0), mark(2, 1, 0)},
		State:   []int{5},
	}}.plays(t, api.Counter)
	scene{programs, []int{0, 1}, api.Tale{Answers: make([][]api.Answer, 2), State: []int{0}}}.plays(t, api.Counter)
}

// P10: there is one list of answers for each thread also if nothing was done: no picks, only such that are no thread, empty programs.
func TestPlayOfNothing(t *testing.T) {
	none := []int{-1, math.MinInt, math.MaxInt, api.MaxThreads, -api.MaxThreads}
	for _, kind := range kinds {
		for _, threads := range []int{1, 2, 16, 17, api.MaxThreads} {
			full := slices.Repeat([][]api.Op{{add(1), add(2)}}, threads)
			nothing := api.Tale{Answers: make([][]api.Answer, threads), State: firstly(kind)}
			scene{full, nil, nothing}.plays(t, kind)
			scene{full, []int{}, nothing}.plays(t, kind)
			scene{full, append(none, threads), nothing}.plays(t, kind)
			all := slices.Repeat([]int{threads - 1, 0, threads, threads / 2}, 50)
			scene{make([][]api.Op, threads), all, nothing}.plays(t, kind)
			scene{slices.Repeat([][]api.Op{{}}, threads), all, nothing}.plays(t, kind)
		}
	}
}

// P10: a pick begins the next operation, if none is under way, and does a step in any case: so the pick that ends an operation does not begin one, and each takes as many picks as it has steps.
func TestPlayCountsSteps(t *testing.T) {
	program := []api.Op{add(5), add(6), {Code: 9}, add(7)}
	for _, kind := range kinds {
		for picks := range 4*26 + 10 {
			want := api.Tale{Answers: make([][]api.Answer, 2), State: firstly(kind)}
			for seq, op := range program {
				state, answer := plainly(kind, want.State, op)
				if picks >= seq*26+23 {
					want.State, want.Order = state, append(want.Order, mark(seq+1, 0, seq))
				}
				if picks >= seq*26+26 {
					want.Answers[0] = append(want.Answers[0], answer)
				}
			}
			scene{[][]api.Op{program, {add(100)}}, times(picks, 0), want}.plays(t, kind)
		}
	}
}

// P10: picks that are no thread, and picks of a thread that has nothing left to do, do nothing, wherever they stand.
func TestPlayIdlePicks(t *testing.T) {
	for _, kind := range kinds {
		programs := [][]api.Op{{add(1), add(2)}, nil, {add(3)}}
		state, first := plainly(kind, firstly(kind), add(1))
		state, second := plainly(kind, state, add(3))
		state, third := plainly(kind, state, add(2))
		want := api.Tale{
			Answers: [][]api.Answer{{first, third}, nil, {second}},
			Order:   []api.Mark{mark(1, 0, 0), mark(2, 2, 0), mark(3, 0, 1)},
			State:   state,
		}
		const steps = 4 + 1 + 8 + 1 + 1 + 3 + 8 + 1 + 3
		picks := slices.Concat(times(steps, 0), times(steps, 2), times(steps, 0))
		scene{programs, picks, want}.plays(t, kind)
		for _, idle := range []int{-1, 3, 1, math.MaxInt, math.MinInt} {
			var mixed []int
			for _, pick := range picks {
				mixed = append(mixed, idle, pick, idle)
			}
			scene{programs, mixed, want}.plays(t, kind)
		}
		behind := slices.Concat(picks, times(2*steps, 2), times(2*steps, 0))
		scene{programs, behind, want}.plays(t, kind)
	}
}

// P10: what has taken effect is in the order and in the state, also if its thread has not ended it; among the answers there is only what has ended.
func TestPlayUnderWay(t *testing.T) {
	for _, kind := range kinds {
		state, _ := plainly(kind, firstly(kind), add(1))
		state, answer := plainly(kind, state, add(10))
		order := []api.Mark{mark(1, 0, 0), mark(1, 1, 0)}
		programs := [][]api.Op{{add(1), add(2)}, {add(10)}}
		picks := slices.Concat(times(4, 0), times(4+attempt(2)+3, 1))
		scene{programs, picks, api.Tale{Answers: [][]api.Answer{nil, {answer}}, Order: order, State: state}}.plays(t, kind)
		scene{programs, picks[:len(picks)-1], api.Tale{Answers: make([][]api.Answer, 2), Order: order, State: state}}.plays(t, kind)
		scene{programs, picks[:len(picks)-4], api.Tale{Answers: make([][]api.Answer, 2), State: firstly(kind)}}.plays(t, kind)
	}
}

// P10: the settings are those of New: a thread waits as Cap says (the document's third example, as a play).
func TestPlayWaits(t *testing.T) {
	programs := [][]api.Op{{add(1)}, {add(1)}}
	picks := slices.Concat(times(4, 0), times(4, 1), times(9, 0), times(22+3, 1), times(6+6+1+1+9+3, 0))
	want := api.Tale{Answers: [][]api.Answer{{done(1)}, {done(2)}}, Order: []api.Mark{mark(1, 0, 0), mark(1, 1, 0)}, State: []int{2}}
	if tale := plays(t, counter(2, 3), programs, picks); !sameTale(tale, want) {
		t.Errorf("P10: Cap 3: %+v, want %+v", tale, want)
	}
	early := want
	early.Answers = [][]api.Answer{nil, {done(2)}}
	if tale := plays(t, counter(2, 3), programs, picks[:len(picks)-1]); !sameTale(tale, early) {
		t.Errorf("P10: Cap 3: one pick less: %+v, want %+v", tale, early)
	}
	if tale := plays(t, counter(2, 0), programs, picks[:len(picks)-1]); !sameTale(tale, want) {
		t.Errorf("P10: Cap 0: %+v, want %+v", tale, want)
	}
}

// P10: MaxThreads programs, MaxProgram operations and MaxPicks picks are not too many.
func TestLargestPlays(t *testing.T) {
	program := slices.Repeat([]api.Op{add(1)}, api.MaxProgram)
	want := api.Tale{Answers: make([][]api.Answer, 1), State: []int{api.MaxProgram}}
	for seq := range program {
		want.Answers[0] = append(want.Answers[0], done(seq+1))
		want.Order = append(want.Order, mark(seq+1, 0, seq))
	}
	scene{[][]api.Op{program}, times(api.MaxPicks, 0), want}.plays(t, api.Counter)
	for _, kind := range kinds {
		c := config(kind, api.MaxThreads, api.MaxCap)
		programs, picks := slices.Repeat([][]api.Op{program}, api.MaxThreads), make([]int, api.MaxPicks)
		for k := range picks {
			picks[k] = k % api.MaxThreads
		}
		if tale, want := plays(t, c, programs, picks), modelTale(c, programs, picks); !sameTale(tale, want) {
			t.Errorf("P10: kind %d: %+v, want %+v", kind, tale, want)
		}
	}
}

// wrongPlay is a play that is refused.
type wrongPlay struct {
	c        api.Config
	programs [][]api.Op
	picks    []int
	err      api.Errno
}

func (w wrongPlay) isRefused(t *testing.T) {
	t.Helper()
	if tale, err := announce.Play(w.c, w.programs, w.picks); err != w.err || tale.Answers != nil || tale.Order != nil || tale.State != nil {
		t.Errorf("P1, P10: Play(%+v, %d programs, %d picks) = %+v, %d, want %d", w.c, len(w.programs), len(w.picks), tale, err, w.err)
	}
}

// P10: fewer or more programs than threads, programs and picks that are too long, of every kind.
func TestPlayTooLarge(t *testing.T) {
	ops := func(count int) []api.Op { return slices.Repeat([]api.Op{add(1)}, count) }
	for _, kind := range kinds {
		one, three, most := config(kind, 1, 0), config(kind, 3, 0), config(kind, api.MaxThreads, 0)
		for _, w := range []wrongPlay{
			{one, nil, nil, api.ErrLarge}, {one, [][]api.Op{}, times(9, 0), api.ErrLarge}, {one, [][]api.Op{ops(1), ops(1)}, times(9, 0), api.ErrLarge},
			{three, make([][]api.Op, 2), times(9, 0), api.ErrLarge}, {three, make([][]api.Op, 4), times(9, 0), api.ErrLarge},
			{most, make([][]api.Op, api.MaxThreads-1), nil, api.ErrLarge}, {most, make([][]api.Op, api.MaxThreads+1), nil, api.ErrLarge}, {most, make([][]api.Op, 5000), nil, api.ErrLarge},
			{one, [][]api.Op{ops(api.MaxProgram + 1)}, times(9, 0), api.ErrLarge}, {one, [][]api.Op{ops(5000)}, nil, api.ErrLarge},
			{three, [][]api.Op{ops(api.MaxProgram + 1), nil, nil}, nil, api.ErrLarge}, {three, [][]api.Op{nil, ops(api.MaxProgram + 1), nil}, nil, api.ErrLarge}, {three, [][]api.Op{ops(1), nil, ops(api.MaxProgram + 1)}, times(9, 0), api.ErrLarge},
			{one, [][]api.Op{ops(1)}, times(api.MaxPicks+1, 0), api.ErrLarge}, {one, make([][]api.Op, 1), times(api.MaxPicks+1, -1), api.ErrLarge}, {three, make([][]api.Op, 3), times(100000, 1), api.ErrLarge},
		} {
			w.isRefused(t)
		}
		plays(t, three, [][]api.Op{ops(api.MaxProgram), nil, ops(api.MaxProgram)}, times(api.MaxPicks, 2))
		plays(t, three, make([][]api.Op, 3), times(api.MaxPicks, -1))
		plays(t, most, make([][]api.Op, api.MaxThreads), nil)
	}
}

// P1, P10: the errors of New come first, in their order, whatever else is wrong.
func TestPlayErrorsOfNew(t *testing.T) {
	long := slices.Repeat([]api.Op{add(1)}, api.MaxProgram+1)
	noTable := api.Config{Kind: api.Table, Threads: 1}
	for _, c := range []struct {
		c   api.Config
		err api.Errno
	}{
		{api.Config{}, api.ErrConfig}, {config(0, 1, 0), api.ErrConfig}, {config(api.Table+1, 1, 0), api.ErrConfig}, {config(-1, 1, 0), api.ErrConfig},
		{counter(0, 0), api.ErrConfig}, {counter(-1, 0), api.ErrConfig}, {counter(api.MaxThreads+1, 0), api.ErrConfig}, {counter(math.MaxInt, 0), api.ErrConfig}, {counter(math.MinInt, 0), api.ErrConfig},
		{counter(1, -1), api.ErrConfig}, {counter(1, api.MaxCap+1), api.ErrConfig},
		{api.Config{Kind: api.Table}, api.ErrConfig}, {api.Config{Kind: api.Table, Threads: 1, Cap: -1}, api.ErrConfig},
		{noTable, api.ErrTable}, {api.Config{Kind: api.Table, Threads: api.MaxThreads, Automaton: api.Automaton{States: 1, Codes: 1, Next: []int{1}, Out: []int{0}}}, api.ErrTable},
	} {
		for _, count := range []int{0, 1, api.MaxThreads, api.MaxThreads + 1} {
			wrongPlay{c.c, make([][]api.Op, count), []int{0}, c.err}.isRefused(t)
			wrongPlay{c.c, slices.Repeat([][]api.Op{long}, count), nil, c.err}.isRefused(t)
			wrongPlay{c.c, make([][]api.Op, count), times(api.MaxPicks+1, 0), c.err}.isRefused(t)
		}
	}
}
