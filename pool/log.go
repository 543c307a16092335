package pool

import "iter"

// step is an entry of a log with the frames before and after it; an entry that is set aside changes nothing.
type step struct {
	Shot
	number int
	rule   int
	foul   int
	before frame
	after  frame
}

// steps goes through the entries of a log that begins in the frame.
func (f frame) steps(l []Shot) iter.Seq[step] {
	return func(yield func(step) bool) {
		at := f
		for i, x := range l {
			s := step{Shot: x, number: i + 1, rule: at.refusal(x), before: at, after: at}
			if s.rule == 0 {
				s.foul, s.after = at.foul(x), at.next(x)
			}
			if !yield(s) {
				return
			}
			at = s.after
		}
	}
}

// note returns what the entry did.
func (s step) note() Note {
	return Note{
		Number: s.number,
		Player: s.Player,
		Rule:   s.rule,
		Foul:   s.foul,
		Points: s.after.Scores[s.Player] - s.before.Scores[s.Player],
		Turn:   s.after.Turn != s.before.Turn,
	}
}

// endsRun reports whether the run before the entry does not go on after it.
func (s step) endsRun() bool { return s.foul != 0 || s.after.Turn != s.before.Turn }

// runs returns the run of the frame, if there are points in it.
func (f frame) runs() []Run {
	if f.Run == 0 {
		return nil
	}
	return []Run{{Player: f.Turn, Points: f.Run}}
}

// states returns the state at the beginning, and those after each entry of a log.
func states(r Rules, l []Shot) []State {
	f := start(r)
	list := []State{f.State}
	for s := range f.steps(l) {
		list = append(list, s.after.State)
	}
	return list
}
