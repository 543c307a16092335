package pool

import (
	"iter"

	"baulk/replay"
)

// step is an entry of a log with the frames before and after it.
type step = replay.Step[frame, Shot]

// steps goes through the entries of a log that begins in the frame.
func (f frame) steps(l []Shot) iter.Seq[step] {
	return replay.Steps(f, l, frame.refusal, frame.next)
}

// foulIn returns the foul of an entry, 0 for one without a foul, and for one that is set aside.
func foulIn(s step) int {
	if s.Rule != 0 {
		return 0
	}
	return s.Before.foul(s.Entry)
}

// note returns what an entry did.
func note(s step) Note {
	player := s.Entry.Player
	return Note{
		Number: s.Number,
		Player: player,
		Rule:   s.Rule,
		Foul:   foulIn(s),
		Points: s.After.Scores[player] - s.Before.Scores[player],
		Turn:   s.After.Turn != s.Before.Turn,
	}
}

// endsRun reports whether the run before an entry does not go on after it.
func endsRun(s step) bool { return foulIn(s) != 0 || s.After.Turn != s.Before.Turn }

// runs returns the run of the frame, if there are points in it.
func (f frame) runs() []Run {
	if f.Run == 0 {
		return nil
	}
	return []Run{{Player: f.Turn, Points: f.Run}}
}

// states returns the state at the beginning, and those after each entry of a log.
func states(r Rules, l []Shot) []State {
	f := start(r)
	list := []State{f.State}
	for s := range f.steps(l) {
		list = append(list, s.After.State)
	}
	return list
}
