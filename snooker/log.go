package snooker

import "iter"

// step is an entry of a log with the frames before and after it; an entry that is set aside changes nothing.
type step struct {
	number int
	rule   int
	points int
	before frame
	after  frame
}

// steps goes through the entries of a log that begins in the frame.
func (f frame) steps(l []Entry) iter.Seq[step] {
	return func(yield func(step) bool) {
		at := f
		for i, e := range l {
			s := step{number: i + 1, rule: at.refusal(e), before: at, after: at}
			if s.rule == 0 {
				after, v := at.next(e)
				s.after, s.points = after, v.Points
			}
			if !yield(s) {
				return
			}
			at = s.after
		}
	}
}

// visit is what a player scores until it is the other one's turn.
type visit struct {
	player int
	points int
}

// visits returns the visits of a log that begins in the frame.
func (f frame) visits(l []Entry) []visit {
	list := []visit{{player: f.Turn}}
	for s := range f.steps(l) {
		list[len(list)-1].points += s.points
		if s.after.Turn != s.before.Turn {
			list = append(list, visit{player: s.after.Turn})
		}
	}
	return list
}
