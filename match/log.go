package match

import (
	"iter"

	"baulk/replay"
)

// steps goes through the entries of a log of the match.
func (m Match) steps(l []Entry) iter.Seq[replay.Step[contest, Entry]] {
	return replay.Steps(m.start(), l, contest.refusal, contest.next)
}

// replayed returns the state after a log, and what was set aside.
func (m Match) replayed(l []Entry) (State, []Refusal) {
	c := m.start()
	var refused []Refusal
	for step := range m.steps(l) {
		c = step.After
		if step.Rule != 0 {
			refused = append(refused, Refusal{Number: step.Number, Rule: step.Rule})
		}
	}
	return c.result(), refused
}
