package pool

import (
	"slices"

	"baulk/rule"
)

// refusal returns the least rule that a shot breaks, 0 if there is none.
func (f frame) refusal(x Shot) int {
	k := kinds()[x.Kind]
	return rule.First(
		func() bool { return f.Over },
		func() bool { return k.outOfTurn(f, x) },
		func() bool { return k.untimely(f, x) },
		func() bool { return k.forbidden(f, x) },
		func() bool { return k.miscalled(f, x) },
		func() bool { return x.First != 0 && !f.has(x.First) },
		func() bool { return !f.canPocket(x) },
	)
}

// canPocket reports whether the object balls that were pocketed come from the table, and are none if no ball was hit.
func (f frame) canPocket(x Shot) bool {
	return !slices.ContainsFunc(objects(x), func(p Pot) bool { return x.First == 0 || !f.has(p.Ball) })
}

// foul returns the foul of a legal shot, 0 without one.
func (f frame) foul(x Shot) int { return kinds()[x.Kind].foul(f, x) }

// next returns the frame after a legal shot.
func (f frame) next(x Shot) frame { return kinds()[x.Kind].next(f, x) }

// conceded returns the frame that a player has given up.
func conceded(f frame, x Shot) frame { return f.won(1 - x.Player) }

// passed returns the frame in which a player lets the other one go on after a push.
func passed(f frame, x Shot) frame {
	n := f.readied()
	n.Turn, n.Run = 1-x.Player, 0
	return n
}

// readied returns the frame without what is permitted for one shot alone.
func (f frame) readied() frame {
	f.Break, f.Hand, f.Push, f.Pushed = false, false, false, false
	return f
}

// stroke is a legal shot that plays the cue ball, as it is judged in the frame before it.
type stroke struct {
	Shot
	before frame
	foul   int
	good   bool
	points int
}

// judged returns a stroke.
func judged(f frame, x Shot) stroke {
	s := stroke{Shot: x, before: f, foul: f.foul(x)}
	s.good = s.foul == 0 && kinds()[x.Kind].good(f, x)
	if s.good {
		s.points = len(objects(x))
	}
	return s
}

// struck returns the frame after a break, a play, a safety or a push.
func struck(f frame, x Shot) frame {
	s := judged(f, x)
	n := f.readied()
	n.Push = x.Kind == "break" && f.is(nine)
	n.Pushed = x.Kind == "push"
	n.Balls = kept(f.Balls, s.keeps)
	n.Scores[x.Player] += s.points
	n = s.grouped(s.charged(s.ended(n)))
	if f.is(straight) && s.good && !n.Over && len(n.Balls) <= 1 {
		n = n.racked()
	}
	n.Run += s.points
	if n.Turn != f.Turn || s.foul != 0 {
		n.Run = 0
	}
	return n
}

// keeps reports whether a ball that was on the table is there after the stroke, too.
func (s stroke) keeps(ball int) bool {
	if !pockets(s.Shot, ball) {
		return true
	}
	switch s.before.rules.Game {
	case eight:
		return ball == 8 && s.Kind == "break"
	case nine:
		return ball == 9 && !s.good
	}
	return !s.good
}

// ended returns the frame as the stroke has won or lost it, without regard to the limit of fouls. In a frame that is not
// over the last ball of eight and nine ball is on the table, so that it is missing just if the stroke ends the frame.
func (s stroke) ended(n frame) frame {
	switch n.rules.Game {
	case straight:
		if s.good && n.Scores[s.Player] >= n.rules.Target {
			return n.won(s.Player)
		}
	case eight:
		if n.has(8) {
			return n
		}
		if s.good && s.Ball == 8 && s.isAtEight() {
			return n.won(s.Player)
		}
		return n.won(1 - s.Player)
	case nine:
		if !n.has(9) {
			return n.won(s.Player)
		}
	}
	return n
}

// isAtEight reports whether the ball 8 alone was to be hit.
func (s stroke) isAtEight() bool {
	targets := s.before.targets()
	return len(targets) == 1 && targets[0] == 8
}

// charged returns the frame with what the stroke costs its player: a foul, the turn, or nothing.
func (s stroke) charged(n frame) frame {
	if s.foul != 0 {
		return s.fined(n)
	}
	n.Fouls[s.Player] = 0
	if !s.good && !n.Over {
		n.Turn = 1 - s.Player
	}
	return n
}

// fined returns the frame after a foul.
func (s stroke) fined(n frame) frame {
	n.Fouls[s.Player]++
	if n.is(straight) {
		n.Scores[s.Player]--
	}
	// A limit of 0 is never reached, as there is one foul at least.
	isLimit := n.Fouls[s.Player] == n.rules.Fouls
	switch {
	case isLimit && n.is(straight):
		n.Scores[s.Player] -= 15
		n.Fouls[s.Player] = 0
		n.Break = true
		return n.racked()
	case isLimit:
		return n.won(1 - s.Player)
	case !n.Over:
		n.Turn = 1 - s.Player
		n.Hand = !n.is(straight) || s.foul == 1
	}
	return n
}

// grouped returns the frame with the groups that the stroke has decided.
func (s stroke) grouped(n frame) frame {
	if n.is(eight) && n.Group == 0 && !n.Over && s.good && s.Kind == "play" {
		n.Group = groupOf(s.Ball, s.Player)
	}
	return n
}
