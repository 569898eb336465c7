package announce

import (
	"slices"
	"sync"

	"announce/api"
)

// Play lets threads run as goroutines, one step at a time (P10).
func Play(c api.Config, programs [][]api.Op, picks []int) (api.Tale, api.Errno) {
	object, err := New(c)
	switch {
	case err != api.OK:
		return api.Tale{}, err
	case len(programs) != c.Threads, anyTooLong(programs), len(picks) > api.MaxPicks:
		return api.Tale{}, api.ErrLarge
	}
	players := newPlayers(object, programs)
	follow(players, picks)
	return api.Tale{Answers: allAnswers(players), Order: object.Order(), State: object.State()}, api.OK
}

// anyTooLong is asked of operations by Play, and of numbers by Race.
func anyTooLong[T any](programs [][]T) bool {
	return slices.ContainsFunc(programs, func(program []T) bool { return len(program) > api.MaxProgram })
}

// follow goes through the picks. When it comes back all goroutines have ended, so that what they wrote may be read.
func follow(players []player, picks []int) {
	end := make(chan struct{})
	var running sync.WaitGroup
	for i := range players {
		running.Go(func() { players[i].run(end) })
	}
	for _, pick := range picks {
		if within(pick, 0, len(players)-1) {
			players[pick].giveTurn()
		}
	}
	close(end)
	running.Wait()
}

func allAnswers(players []player) [][]api.Answer {
	answers := make([][]api.Answer, len(players))
	for i := range players {
		answers[i] = players[i].answers
	}
	return answers
}
