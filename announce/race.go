package announce

import (
	"sync"

	"announce/api"
)

// Race lets threads run as goroutines, as they like, on one counter (P11).
func Race(programs [][]int) (int, api.Errno) {
	counter, err := New(raceConfig(len(programs)))
	switch {
	case err != api.OK: // the number of threads is all that can be wrong
		return 0, err
	case anyTooLong(programs):
		return 0, api.ErrLarge
	}
	addAll(counter, programs)
	return counter.State()[0], api.OK
}

func raceConfig(threads int) api.Config {
	return api.Config{Kind: api.Counter, Threads: threads, Cap: 8}
}

// addAll comes back when all goroutines have ended.
func addAll(counter *Object, programs [][]int) {
	var running sync.WaitGroup
	for thread, numbers := range programs {
		running.Go(func() {
			for _, number := range numbers {
				counter.Do(thread, api.Op{Code: api.Add, A: number})
			}
		})
	}
	running.Wait()
}
