package snooker

import (
	"strconv"

	"baulk/rule"
)

// Winners that are no players.
const (
	nobody = -1
	drawn  = 2
)

// Fouls that are asked for by their numbers.
const (
	noHit      = 1
	wrongHit   = 2
	longStreak = 5
)

// frame is a frame that is played. It is a value.
type frame struct {
	State
	game Game
	kind kind
}

// newFrame returns the frame of a game in a state.
func newFrame(g Game, s State) frame { return frame{State: s, game: g, kind: kinds()[g.Kind]} }

// start returns the frame at the beginning.
func start(g Game) frame {
	f := newFrame(g, State{Reds: g.Reds, Winner: nobody})
	f.Phase = f.kind.phases[0]
	return f
}

func (f frame) isOver() bool { return f.Winner != nobody }

// other returns the player whose turn it is not.
func (f frame) other() int { return 1 - f.Turn }

// leader returns the player with the greater score, or drawn.
func (f frame) leader() int {
	switch {
	case f.Scores[0] > f.Scores[1]:
		return 0
	case f.Scores[0] < f.Scores[1]:
		return 1
	}
	return drawn
}

// passed returns the frame as it is the other player's turn.
func (f frame) passed() frame {
	f.Turn, f.Break, f.Streak = f.other(), 0, 0
	return f
}

// offered returns the frame with what the player may choose after a foul.
func (f frame) offered(isFree, isFouled bool) frame {
	f.Free, f.Fouled = isFree, isFouled
	return f
}

// won returns the frame as it is over.
func (f frame) won(winner int) frame {
	f.Winner = winner
	return f.offered(false, false)
}

// stroke is a shot that is legal in the frame before it, with what it is worth.
type stroke struct {
	Entry
	Verdict
	before frame
}

// scored returns the scores after a shot that is worth something.
func (f frame) scored(v Verdict) [2]int {
	f.Scores[f.Turn] += v.Points
	f.Scores[f.other()] += v.Penalty
	return f.Scores
}

// refusal returns the least rule that an entry breaks, 0 if there is none.
func (f frame) refusal(e Entry) int {
	isShot := e.Kind == shot
	return rule.First(
		func() bool { return f.isOver() },
		func() bool { return (e.Kind == again || e.Kind == free) && !f.Fouled },
		func() bool { return isShot && !f.kind.mayCall(f, e.Called) },
		func() bool { return isShot && !f.isThere(e) },
		func() bool { return isShot && f.isTooHigh(e) },
	)
}

// isThere reports whether the balls of a shot are on the table.
func (f frame) isThere(e Entry) bool {
	for _, ball := range e.Hits {
		if !f.kind.mayHit(f, ball) {
			return false
		}
	}
	for _, ball := range e.Pots {
		if count(e.Pots, ball) > f.kind.supply(f, ball) {
			return false
		}
	}
	return true
}

// isTooHigh reports whether a score is too high after a shot.
func (f frame) isTooHigh(e Entry) bool {
	scores := f.scored(f.kind.judged(f, e))
	return max(scores[0], scores[1]) > MaxScore
}

// next returns the frame after a legal entry, and what this is worth.
func (f frame) next(e Entry) (frame, Verdict) {
	switch e.Kind {
	case again:
		return f.passed().offered(false, false), Verdict{}
	case free:
		return f.offered(true, false), Verdict{}
	case concede:
		return f.won(f.other()), Verdict{}
	}
	v := f.kind.judged(f, e)
	return f.struck(stroke{Entry: e, Verdict: v, before: f}), v
}

// after returns the frame after a legal entry.
func (f frame) after(e Entry) frame {
	n, _ := f.next(e)
	return n
}

// struck returns the frame after a shot.
func (f frame) struck(s stroke) frame {
	n := f.offered(false, false)
	n.Scores = f.scored(s.Verdict)
	n.Break += s.Points
	if !s.Stays {
		n = n.passed()
	}
	return f.kind.played(s, n)
}

// line returns the scores, and how the frame stands.
func (f frame) line() string {
	scores := strconv.Itoa(f.Scores[0]) + ":" + strconv.Itoa(f.Scores[1]) + " "
	switch f.Winner {
	case nobody:
		return scores + f.kind.text(f)
	case drawn:
		return scores + "drawn"
	}
	return scores + "won " + strconv.Itoa(f.Winner)
}
