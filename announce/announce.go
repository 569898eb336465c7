// Package announce: one object for many threads, in which whoever comes does what all have announced: see DOC.md.
package announce

import (
	"announce/api"
	"announce/engine"
	"announce/plain"
)

// Object is an object and its threads.
type Object struct{ calls }

// calls is what every engine offers. The engines differ by the type of their state, so Object embeds what they have in common.
type calls interface {
	// Begin begins an operation (P5).
	Begin(thread int, op api.Op) api.Errno
	// Step lets a thread go on by one step (P6).
	Step(thread int) (int, api.Errno)
	// Answer tells the answer of a thread's last operation (P5).
	Answer(thread int) (api.Answer, api.Errno)
	// Do begins an operation and goes on till it has ended (P5).
	Do(thread int, op api.Op) (api.Answer, api.Errno)
	// Order tells in which order operations have taken effect (P8).
	Order() []api.Mark
	// State tells what the object holds (P8).
	State() []int
	// Bound tells how many steps an operation takes at most (P9).
	Bound() int
}

// New makes an object (P3).
func New(c api.Config) (*Object, api.Errno) {
	if err := checkConfig(c); err != api.OK {
		return nil, err
	}
	switch c.Kind {
	case api.Counter:
		return objectOf(plain.Counter{}, c), api.OK
	case api.Stack:
		return objectOf(plain.Stack{}, c), api.OK
	case api.Queue:
		return objectOf(plain.Queue{}, c), api.OK
	case api.Map:
		return objectOf(plain.Map{}, c), api.OK
	}
	return objectOf(plain.NewTable(c.Automaton), c), api.OK // no other kind is left: checkConfig refuses them
}

// objectOf gives a plain object the threads that the settings ask for.
func objectOf[S any](object engine.Plain[S], c api.Config) *Object {
	return &Object{engine.New(object, c.Threads, c.Cap)}
}
