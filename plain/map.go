package plain

import "announce/api"

// Map has the tree of its keys as its state.
type Map struct{}

// First is a map without keys.
func (Map) First() *tree { return nil }

// Apply does an operation on a map's keys (P4).
func (Map) Apply(keys *tree, op api.Op) (*tree, api.Answer) {
	value, found := keys.find(op.A)
	switch op.Code {
	case api.Store:
		keys = keys.with(entry{key: op.A, value: op.B})
	case api.Load:
	case api.Remove:
		if found {
			keys = keys.without(op.A)
		}
	default:
		return keys, badOp()
	}
	if !found {
		return keys, none()
	}
	return keys, done(value)
}

// Tell is the keys by rising numbers, each with its value behind it (P8).
func (Map) Tell(keys *tree) []int { return keys.listed(nil) }
