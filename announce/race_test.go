package announce_test

import (
	"math"
	"math/rand"
	"slices"
	"sync"
	"testing"

	"announce/announce"
	"announce/api"
)

func races(t *testing.T, programs [][]int, want int) {
	t.Helper()
	if sum, err := announce.Race(programs); sum != want || err != api.OK {
		t.Errorf("P11: Race(%v) = %d, %d, want %d", programs, sum, err, want)
	}
}

// P11: the document's seventh example, empty programs, and sums that wrap round.
func TestRace(t *testing.T) {
	races(t, [][]int{{1, 2, 3}, {10, -4}}, 12)
	races(t, [][]int{nil}, 0)
	races(t, [][]int{{}, nil, {}}, 0)
	races(t, [][]int{{7}}, 7)
	races(t, [][]int{nil, {0, 5}, nil}, 5)
	races(t, [][]int{{math.MaxInt, 1}}, math.MinInt)
	races(t, [][]int{{math.MaxInt}, {1}, {math.MinInt}}, 0)
	races(t, [][]int{{math.MinInt}, {-1}}, math.MaxInt)
}

// P11: MaxThreads programs and MaxProgram numbers are not too many, and none of them is lost.
func TestLargestRaces(t *testing.T) {
	long := slices.Repeat([]int{1}, api.MaxProgram)
	races(t, [][]int{long}, api.MaxProgram)
	races(t, make([][]int, api.MaxThreads), 0)
	for range 20 {
		races(t, slices.Repeat([][]int{long}, api.MaxThreads), api.MaxThreads*api.MaxProgram)
	}
}

// P11: whatever the numbers are, and however the goroutines run, the answer is their sum.
func TestDrawnRaces(t *testing.T) {
	r := rand.New(rand.NewSource(8))
	for range 300 {
		programs, sum := make([][]int, 1+r.Intn(api.MaxThreads)), 0
		for thread := range programs {
			for range r.Intn(12) {
				number := int(r.Uint64())
				programs[thread], sum = append(programs[thread], number), sum+number
			}
		}
		races(t, programs, sum)
	}
}

// P1, P11: the errors, and which comes first.
func TestRaceErrors(t *testing.T) {
	long := make([]int, api.MaxProgram+1)
	for _, c := range []struct {
		programs [][]int
		err      api.Errno
	}{
		{nil, api.ErrConfig}, {[][]int{}, api.ErrConfig},
		{slices.Repeat([][]int{{1}}, api.MaxThreads+1), api.ErrConfig}, {make([][]int, 100000), api.ErrConfig},
		{slices.Repeat([][]int{long}, api.MaxThreads+1), api.ErrConfig},
		{[][]int{long}, api.ErrLarge}, {[][]int{long, {1}}, api.ErrLarge}, {[][]int{{1}, long}, api.ErrLarge}, {[][]int{{1}, long, {1}}, api.ErrLarge},
		{[][]int{{1}, slices.Repeat([]int{1}, 100000)}, api.ErrLarge},
		{slices.Repeat([][]int{long}, api.MaxThreads), api.ErrLarge},
	} {
		if sum, err := announce.Race(c.programs); sum != 0 || err != c.err {
			t.Errorf("P1, P11: Race of %d programs = %d, %d, want %d", len(c.programs), sum, err, c.err)
		}
	}
}

// P2: races know nothing of one another, also at the same time, and what is handed in is not written into, its spare room neither.
func TestRacesApart(t *testing.T) {
	whole := [][]int{{1, 2, 77}, {3, 77}, {77}, {77}}
	programs := [][]int{whole[0][:2], whole[1][:1], whole[2][:0], whole[3]}
	var group sync.WaitGroup
	for range 8 {
		group.Go(func() {
			for range 20 {
				races(t, programs[:3], 6)
			}
		})
	}
	group.Wait()
	if !slices.EqualFunc(whole, [][]int{{1, 2, 77}, {3, 77}, {77}, {77}}, slices.Equal) || !slices.Equal(programs[3], whole[3]) {
		t.Errorf("P2: what was handed in has become %v, with %v behind it", whole, programs[3])
	}
}
