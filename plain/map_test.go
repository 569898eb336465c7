package plain

import (
	"maps"
	"math"
	"math/rand"
	"slices"
	"testing"

	"announce/api"
)

func store(key, value int) api.Op { return api.Op{Code: api.Store, A: key, B: value} }

func load(key int) api.Op { return api.Op{Code: api.Load, A: key, B: 9} }

func remove(key int) api.Op { return api.Op{Code: api.Remove, A: key, B: 9} }

// P4, P8: what a map answers and tells: keys that are not there, and one that is removed and stored again.
func TestMap(t *testing.T) {
	does(t, Map{}, []deed{
		{load(3), none(), nil},
		{remove(3), none(), nil},
		{store(3, 30), none(), []int{3, 30}},
		{store(3, 31), done(30), []int{3, 31}},
		{load(3), done(31), []int{3, 31}},
		{load(4), none(), []int{3, 31}},
		{store(-1, 5), none(), []int{-1, 5, 3, 31}},
		{store(0, 0), none(), []int{-1, 5, 0, 0, 3, 31}},
		{load(0), done(0), []int{-1, 5, 0, 0, 3, 31}},
		{remove(1), none(), []int{-1, 5, 0, 0, 3, 31}},
		{remove(0), done(0), []int{-1, 5, 3, 31}},
		{load(0), none(), []int{-1, 5, 3, 31}},
		{remove(0), none(), []int{-1, 5, 3, 31}},
		{store(0, 7), none(), []int{-1, 5, 0, 7, 3, 31}},
		{store(math.MaxInt, math.MinInt), none(), []int{-1, 5, 0, 7, 3, 31, math.MaxInt, math.MinInt}},
		{store(math.MinInt, math.MaxInt), none(), []int{math.MinInt, math.MaxInt, -1, 5, 0, 7, 3, 31, math.MaxInt, math.MinInt}},
		{remove(math.MaxInt), done(math.MinInt), []int{math.MinInt, math.MaxInt, -1, 5, 0, 7, 3, 31}},
		{load(math.MinInt), done(math.MaxInt), []int{math.MinInt, math.MaxInt, -1, 5, 0, 7, 3, 31}},
		{remove(math.MinInt), done(math.MaxInt), []int{-1, 5, 0, 7, 3, 31}},
		{remove(-1), done(5), []int{0, 7, 3, 31}},
		{remove(3), done(31), []int{0, 7}},
		{remove(0), done(7), nil},
		{remove(0), none(), nil},
	}...)
}

// treeOf has the keys, in this order, each with its tenfold as its value.
func treeOf(keys ...int) *tree {
	var t *tree
	for _, key := range keys {
		t = t.with(entry{key, 10 * key})
	}
	return t
}

// P4: codes that a map does not know, at keys that are there and at others.
func TestMapBadCodes(t *testing.T) {
	for _, code := range []int{0, -1, 4, 9, math.MaxInt, math.MinInt} {
		for _, state := range []*tree{nil, treeOf(1, 2, 3)} {
			for key := range 5 {
				if next, answer := (Map{}).Apply(state, api.Op{Code: code, A: key, B: 3}); next != state || answer != badOp() {
					t.Errorf("P4: the code %d: %+v, %v", code, answer, Map{}.Tell(next))
				}
			}
		}
	}
}

// mapDoes is a map, of which what is told is made into one of the language's.
func mapDoes(told []int, op api.Op) ([]int, api.Answer) {
	all := map[int]int{}
	for pair := range slices.Chunk(told, 2) {
		all[pair[0]] = pair[1]
	}
	value, found := all[op.A]
	switch op.Code {
	case api.Store:
		all[op.A] = op.B
	case api.Remove:
		delete(all, op.A)
	case api.Load:
	default:
		return told, badOp()
	}
	told = nil
	for _, key := range slices.Sorted(maps.Keys(all)) {
		told = append(told, key, all[key])
	}
	if !found {
		return told, none()
	}
	return told, done(value)
}

// Ways: a map's states are never changed; what changes nothing leads to the same tree.
func TestMapStates(t *testing.T) {
	branches(t, Map{}, mapDoes)
	state := treeOf(4, 2, 6, 1, 3, 5, 7)
	newLists(t, Map{}, state)
	for _, op := range []api.Op{load(3), load(9), remove(9), {Code: 4, A: 3}} {
		if next, _ := (Map{}).Apply(state, op); next != state {
			t.Errorf("%+v has copied the map", op)
		}
	}
}

// nodes are those of a tree.
func nodes(t *tree, all map[*tree]int) map[*tree]int {
	if t != nil {
		all[t]++
		nodes(t.left, all)
		nodes(t.right, all)
	}
	return all
}

// unshared counts the nodes of a tree that another one does not have.
func unshared(next, old *tree) int {
	olds, count := nodes(old, map[*tree]int{}), 0
	for node := range nodes(next, map[*tree]int{}) {
		if olds[node] == 0 {
			count++
		}
	}
	return count
}

// Ways: of a map's tree only the path is copied. (Turning takes one beside the path now and then, at each height one or two.)
func TestMapSharesAllButThePath(t *testing.T) {
	state := treeOf(rand.New(rand.NewSource(4)).Perm(400)...)
	for key := range 401 {
		next, _ := Map{}.Apply(state, store(key, -1))
		if n := unshared(next, state); n > state.tall()+1 {
			t.Errorf("Store of %d: %d nodes are new, the tree's height is %d", key, n, state.tall())
		}
		next, _ = Map{}.Apply(state, remove(key))
		if n := unshared(next, state); n > 3*state.tall() {
			t.Errorf("Remove of %d: %d nodes are new, the tree's height is %d", key, n, state.tall())
		}
	}
	state = treeOf(4, 2, 6, 1, 3, 5, 7)
	for _, op := range []api.Op{store(5, 0), remove(5)} {
		if next, _ := (Map{}).Apply(state, op); next.left != state.left || next.right.right != state.right.right {
			t.Errorf("%+v has copied what is beside the path", op)
		}
	}
}

// sound: the keys rise, the heights are what they should be and differ by one at most. The answer is the height.
func sound(t *testing.T, at *tree) int {
	t.Helper()
	if at == nil {
		return 0
	}
	left, right := sound(t, at.left), sound(t, at.right)
	if at.left != nil && at.left.key >= at.key || at.right != nil && at.right.key <= at.key {
		t.Fatalf("the key %d has a lesser one on its right, or a greater one on its left", at.key)
	}
	if at.height != 1+max(left, right) || left > right+1 || right > left+1 {
		t.Fatalf("the key %d: heights %d, %d, and as it tells itself %d", at.key, left, right, at.height)
	}
	return at.height
}

// Ways: the path stays short, in whatever order keys come and go.
func TestMapIsBalanced(t *testing.T) {
	const count = 300
	rising := make([]int, count)
	for i := range rising {
		rising[i] = i
	}
	falling := slices.Clone(rising)
	slices.Reverse(falling)
	orders := [][]int{rising, falling, rand.New(rand.NewSource(5)).Perm(count), zigzag(count)}
	for _, stored := range orders {
		for _, removed := range orders {
			comeAndGo(t, stored, removed)
		}
	}
}

// zigzag: the least, the greatest, the next but least ...
func zigzag(count int) []int {
	keys := make([]int, count)
	for i := range keys {
		keys[i] = i / 2
		if i%2 == 1 {
			keys[i] = count - 1 - i/2
		}
	}
	return keys
}

func comeAndGo(t *testing.T, stored, removed []int) {
	t.Helper()
	var state *tree
	left := map[int]int{}
	for _, key := range stored {
		state, _ = Map{}.Apply(state, store(key, -key))
		sound(t, state)
		left[key] = -key
	}
	for _, key := range removed {
		next, answer := Map{}.Apply(state, remove(key))
		if answer != done(-key) {
			t.Fatalf("P4: Remove of %d: %+v", key, answer)
		}
		sound(t, next)
		state = next
		delete(left, key)
		if len(left)%50 == 0 {
			checkEntries(t, state, left)
		}
	}
}

// checkEntries: just these keys, by rising numbers.
func checkEntries(t *testing.T, state *tree, all map[int]int) {
	t.Helper()
	var want []int
	for _, key := range slices.Sorted(maps.Keys(all)) {
		want = append(want, key, all[key])
	}
	if l := (Map{}).Tell(state); !slices.Equal(l, want) {
		t.Fatalf("P8: %v, want %v", l, want)
	}
}
