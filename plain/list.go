package plain

// list is never changed once it is made, so that longer ones may share it as their tail. The empty list is nil.
type list struct {
	head  int
	tail  *list
	count int // kept, as going through the list for it would make every addition as long as the list
}

func (l *list) size() int {
	if l == nil {
		return 0
	}
	return l.count
}

// with is the list with a value on top.
func (l *list) with(value int) *list {
	return &list{head: value, tail: l, count: l.size() + 1}
}

// reversed shares nothing: each value has another tail then.
func (l *list) reversed() *list {
	var turned *list
	for ; l != nil; l = l.tail {
		turned = turned.with(l.head)
	}
	return turned
}

// values are new memory, from the top on.
func (l *list) values() []int {
	values := make([]int, 0, l.size())
	for ; l != nil; l = l.tail {
		values = append(values, l.head)
	}
	return values
}
