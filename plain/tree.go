package plain

// tree is never changed once it is made, so that others may share it: a tree with another value, or with a key more or less, has only the path to that key anew.
// Left of a key are the lesser ones, right of it the greater ones; the heights of both sides differ by one at most, or a path could be as long as there are keys. The empty tree is nil.
type tree struct {
	entry
	left, right *tree
	height      int
}

type entry struct{ key, value int }

func (t *tree) tall() int {
	if t == nil {
		return 0
	}
	return t.height
}

func (t *tree) find(key int) (value int, found bool) {
	for t != nil && t.key != key {
		if key < t.key {
			t = t.left
		} else {
			t = t.right
		}
	}
	if t == nil {
		return 0, false
	}
	return t.value, true
}

// with is the tree in which the entry's key has the entry's value.
func (t *tree) with(e entry) *tree {
	switch {
	case t == nil:
		return joined(nil, e, nil)
	case e.key < t.key:
		return balanced(t.left.with(e), t.entry, t.right)
	case e.key > t.key:
		return balanced(t.left, t.entry, t.right.with(e))
	}
	return joined(t.left, e, t.right)
}

// without is the tree in which a key is gone that is there.
func (t *tree) without(key int) *tree {
	switch {
	case key < t.key:
		return balanced(t.left.without(key), t.entry, t.right)
	case key > t.key:
		return balanced(t.left, t.entry, t.right.without(key))
	case t.left == nil:
		return t.right
	case t.right == nil:
		return t.left
	}
	next := t.right.least()
	return balanced(t.left, next, t.right.without(next.key))
}

// least is the entry of the least key. The tree must not be empty.
func (t *tree) least() entry {
	for t.left != nil {
		t = t.left
	}
	return t.entry
}

func joined(left *tree, e entry, right *tree) *tree {
	return &tree{entry: e, left: left, right: right, height: 1 + max(left.tall(), right.tall())}
}

// balanced takes sides whose heights differ by two at most: more than that a key more or less cannot make of it.
func balanced(left *tree, e entry, right *tree) *tree {
	switch {
	case left.tall() > right.tall()+1:
		return turnedRight(left, e, right)
	case right.tall() > left.tall()+1:
		return turnedLeft(left, e, right)
	}
	return joined(left, e, right)
}

// turnedRight has the left side's entry on top, or, if what the left side has in the middle is its taller part, that one's.
func turnedRight(left *tree, e entry, right *tree) *tree {
	middle := left.right
	if left.left.tall() >= middle.tall() {
		return joined(left.left, left.entry, joined(middle, e, right))
	}
	return joined(joined(left.left, left.entry, middle.left), middle.entry, joined(middle.right, e, right))
}

// turnedLeft is turnedRight in a mirror.
func turnedLeft(left *tree, e entry, right *tree) *tree {
	middle := right.left
	if right.right.tall() >= middle.tall() {
		return joined(joined(left, e, middle), right.entry, right.right)
	}
	return joined(joined(left, e, middle.left), middle.entry, joined(middle.right, right.entry, right.right))
}

// listed has the tree's keys behind what the list has, by rising numbers, each with its value behind it.
func (t *tree) listed(list []int) []int {
	if t == nil {
		return list
	}
	list = append(t.left.listed(list), t.key, t.value)
	return t.right.listed(list)
}
