package announce

import "announce/api"

// player is a thread with its program. While a play lasts, what is left and the answers belong to the thread's goroutine alone.
type player struct {
	object  *Object
	thread  int
	left    []api.Op
	answers []api.Answer
	turn    chan struct{}
	done    chan struct{}
}

func newPlayers(object *Object, programs [][]api.Op) []player {
	players := make([]player, len(programs))
	for thread, program := range programs {
		players[thread] = player{object: object, thread: thread, left: program, turn: make(chan struct{}), done: make(chan struct{})}
	}
	return players
}

// run is the thread's goroutine. The end is told only when no turn is under way, so that there is never a choice between the two.
func (p *player) run(end <-chan struct{}) {
	for {
		select {
		case <-p.turn:
			p.goOn()
			p.done <- struct{}{}
		case <-end:
			return
		}
	}
}

// giveTurn waits till the turn is over: were two threads to go on at once, the tale would hang on who is quicker.
func (p *player) giveTurn() {
	p.turn <- struct{}{}
	<-p.done
}

// goOn leaves it to the object to know whether an operation is under way: Begin refuses if there is one, Step if there is none.
func (p *player) goOn() {
	if len(p.left) > 0 && p.object.Begin(p.thread, p.left[0]) == api.OK {
		p.left = p.left[1:]
	}
	if how, _ := p.object.Step(p.thread); how == api.Ended {
		answer, _ := p.object.Answer(p.thread)
		p.answers = append(p.answers, answer)
	}
}
