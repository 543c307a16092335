package snooker

import (
	"iter"

	"baulk/replay"
)

// steps goes through the entries of a log that begins in the frame.
func (f frame) steps(l []Entry) iter.Seq[replay.Step[frame, Entry]] {
	return replay.Steps(f, l, frame.refusal, frame.after)
}

// visit is what a player scores until it is the other one's turn.
type visit struct {
	player int
	points int
}

// visits returns the visits of a log that begins in the frame.
func (f frame) visits(l []Entry) []visit {
	list := []visit{{player: f.Turn}}
	for s := range f.steps(l) {
		player := s.Before.Turn
		list[len(list)-1].points += s.After.Scores[player] - s.Before.Scores[player]
		if s.After.Turn != player {
			list = append(list, visit{player: s.After.Turn})
		}
	}
	return list
}
