package announce_test

import (
	"math/rand"
	"slices"
	"sync"
	"testing"

	"announce/announce"
	"announce/api"
)

// modelTale is what the model tells of a play.
func modelTale(c api.Config, programs [][]api.Op, picks []int) api.Tale {
	m, busy, left := newModel(c), make([]bool, c.Threads), slices.Clone(programs)
	answers := make([][]api.Answer, c.Threads)
	for _, pick := range picks {
		if pick < 0 || pick >= c.Threads {
			continue
		}
		if !busy[pick] && len(left[pick]) > 0 {
			m.begin(pick, left[pick][0])
			left[pick], busy[pick] = left[pick][1:], true
		}
		if busy[pick] && m.step(pick) {
			answers[pick], busy[pick] = append(answers[pick], m.actors[pick].answer), false
		}
	}
	tale := api.Tale{Answers: answers, Order: slices.Clone(m.order), State: slices.Clone(m.pool[m.published].state)}
	for thread := range busy {
		if busy[thread] {
			m.actors[thread].stop()
		}
	}
	return tale
}

func drawPrograms(r *rand.Rand, kind, threads int) [][]api.Op {
	programs := make([][]api.Op, threads)
	for thread := range programs {
		for range r.Intn(2 + r.Intn(8)) {
			programs[thread] = append(programs[thread], mixed(kind, thread, r.Intn(1000)))
		}
	}
	return programs
}

// drawPicks has long turns and short ones, and some picks that are no thread.
func drawPicks(r *rand.Rand, threads int) []int {
	var picks []int
	for range 1 + r.Intn(200) {
		picks = append(picks, times(1+r.Intn(1+r.Intn(60)), r.Intn(threads+2)-1)...)
	}
	return picks[:min(len(picks), api.MaxPicks)]
}

// P10: whichever programs and picks there are, the tale is the one that the model tells.
func TestPlayModel(t *testing.T) {
	r := rand.New(rand.NewSource(5))
	ended, under := 0, 0
	for round := range 640 {
		c := config(kinds[round%len(kinds)], []int{1, 2, 3, 4, 5, 16, 17, 64}[round%8], r.Intn(12))
		programs, picks := drawPrograms(r, c.Kind, c.Threads), drawPicks(r, c.Threads)
		tale, want := plays(t, c, programs, picks), modelTale(c, programs, picks)
		if !sameTale(tale, want) {
			t.Fatalf("P10: Play(%+v, %v, %v) = %+v, want %+v", c, programs, picks, tale, want)
		}
		told := 0
		for _, l := range tale.Answers {
			told += len(l)
		}
		ended, under = ended+told, under+len(tale.Order)-told
	}
	if ended < 1000 || under < 100 {
		t.Errorf("the plays are too short: %d operations have ended, %d took effect and have not ended", ended, under)
	}
}

// P2, P10: plays know nothing of one another, also at the same time, and with the same programs and picks: each tells the same tale.
func TestPlaysApart(t *testing.T) {
	r := rand.New(rand.NewSource(6))
	for _, kind := range kinds {
		c := config(kind, 5, 3)
		programs, picks := drawPrograms(r, kind, 5), drawPicks(r, 5)
		want := modelTale(c, programs, picks)
		var group sync.WaitGroup
		for range 8 {
			group.Go(func() {
				for range 5 {
					if tale, err := announce.Play(c, programs, picks); !sameTale(tale, want) || err != api.OK {
						t.Errorf("P2, P10: kind %d: beside others: %+v, %d, want %+v", kind, tale, err, want)
					}
				}
			})
		}
		group.Wait()
	}
}

// busyPlay has enough answers for lists with spare room.
func busyPlay(kind int) (api.Config, [][]api.Op, []int) {
	var programs [][]api.Op
	for thread := range 3 {
		var program []api.Op
		for k := range 5 + thread {
			program = append(program, mixed(kind, thread, k))
		}
		programs = append(programs, program)
	}
	return config(kind, 3, 2), programs, slices.Concat(times(150, 0), times(120, 2), times(170, 1), times(70, 0))
}

func copyOfTale(tale api.Tale) api.Tale {
	c := api.Tale{Order: slices.Clone(tale.Order), State: slices.Clone(tale.State)}
	for _, l := range tale.Answers {
		c.Answers = append(c.Answers, slices.Clone(l))
	}
	return c
}

// fill writes into a list, up to its spare room.
func fill[T any](list []T, value T) {
	list = list[:cap(list)]
	for i := range list {
		list[i] = value
	}
}

// P2: the lists of a tale may be written into, up to their spare room, and nothing is seen of it in another.
func TestTalesAreNew(t *testing.T) {
	for _, kind := range kinds {
		c, programs, picks := busyPlay(kind)
		want := copyOfTale(plays(t, c, programs, picks))
		for list := range 6 {
			tale, other := plays(t, c, programs, picks), plays(t, c, programs, picks)
			switch list {
			case 3:
				fill(tale.Order, mark(77, 77, 77))
				tale.Order = want.Order
			case 4:
				fill(tale.State, 77)
				tale.State = want.State
			case 5:
				fill(tale.Answers, []api.Answer{done(77)})
				tale.Answers = want.Answers
			default:
				fill(tale.Answers[list], done(77))
				tale.Answers[list] = want.Answers[list]
			}
			if !sameTale(tale, want) || !sameTale(other, want) {
				t.Errorf("P2: kind %d: list %d of a tale was written into: the tale is %+v, another one %+v, want %+v", kind, list, tale, other, want)
			}
		}
	}
}

// P2: what is handed in is not written into, its spare room neither; and not kept: it may be written into, and nothing is seen of it in the tale.
func TestPlayHandedIn(t *testing.T) {
	for _, kind := range kinds {
		c, programs, picks := busyPlay(kind)
		a := automaton()
		next, out := append(a.Next, 77), append(a.Out, 77)
		c.Automaton.Next, c.Automaton.Out = next[:15], out[:15]
		lent, spare := make([][]api.Op, 4), []api.Op{add(77)}
		for thread, program := range programs {
			lent[thread] = append(slices.Clone(program), spare...)[:len(program)]
		}
		lent[3] = spare
		lentPicks := append(slices.Clone(picks), 77)
		tale := plays(t, c, lent[:3], lentPicks[:len(picks)])
		if !slices.Equal(next, append(automaton().Next, 77)) || !slices.Equal(out, append(automaton().Out, 77)) || !slices.Equal(lentPicks, append(picks, 77)) {
			t.Errorf("P2: kind %d: what was handed in has become %v, %v, %v", kind, next, out, lentPicks)
		}
		for thread, program := range append(programs, nil) {
			if whole := lent[thread][:len(program)+1]; !slices.Equal(whole, append(program, spare...)) {
				t.Errorf("P2: kind %d: the program of thread %d has become %v", kind, thread, whole)
			}
		}
		want := copyOfTale(tale)
		for _, program := range lent {
			fill(program, add(99))
		}
		fill(lent, nil)
		fill(lentPicks, 1)
		fill(next, 99)
		fill(out, 99)
		if !sameTale(tale, want) {
			t.Errorf("P2: kind %d: the tale has become %+v, want %+v", kind, tale, want)
		}
	}
}
