// Package plain has the plain objects, each as one thread alone would use it.
package plain

import "announce/api"

// Counter has its sum as its state.
type Counter struct{}

// First is a new counter's sum.
func (Counter) First() int { return 0 }

// Apply does an operation on a sum (P4).
func (Counter) Apply(sum int, op api.Op) (int, api.Answer) {
	switch op.Code {
	case api.Add:
		sum += op.A
	case api.Sum:
	default:
		return sum, badOp()
	}
	return sum, done(sum)
}

// Tell is the sum as a list (P8).
func (Counter) Tell(sum int) []int { return []int{sum} }
