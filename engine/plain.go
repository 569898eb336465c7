// Package engine makes a plain object one that many threads may use at once: whoever comes does what all have announced.
package engine

import "announce/api"

// Plain is an object as one thread alone would use it. A state is never changed: Apply answers another one.
type Plain[S any] interface {
	First() S
	Apply(state S, op api.Op) (S, api.Answer)
	Tell(state S) []int
}
