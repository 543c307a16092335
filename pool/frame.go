package pool

import "slices"

// frame is a frame that is played. It is a value: the list of its balls can belong to others, and is never changed.
type frame struct {
	State
	rules Rules
}

// start returns the frame at the beginning.
func start(r Rules) frame {
	return frame{State: State{Break: true, Balls: rack(r.Game), Racks: 1}, rules: r}
}

// rack returns the balls of a game's rack.
func rack(game string) []int {
	var balls []int
	for ball := range rackSize(game) {
		balls = append(balls, ball+1)
	}
	return balls
}

// rackSize returns how many balls the rack of a game has.
func rackSize(game string) int {
	if game == nine {
		return 9
	}
	return maxBall
}

// result returns the state of the frame as new memory.
func (f frame) result() State {
	s := f.State
	s.Balls = slices.Clone(s.Balls)
	return s
}

// is reports whether the game is the named one.
func (f frame) is(game string) bool { return f.rules.Game == game }

// has reports whether a ball is on the table.
func (f frame) has(ball int) bool { return slices.Contains(f.Balls, ball) }

// racked returns the frame with all balls on the table.
func (f frame) racked() frame {
	f.Balls = rack(f.rules.Game)
	f.Racks++
	return f
}

// won returns the frame as it has been won by a player.
func (f frame) won(player int) frame {
	f.Over, f.Winner = true, player
	return f
}

// targets returns the balls that may be hit first.
func (f frame) targets() []int {
	switch {
	case f.is(nine):
		return f.Balls[:min(1, len(f.Balls))]
	case f.is(straight) || f.Break:
		return f.Balls
	}
	if own := kept(f.Balls, f.isOwn); len(own) > 0 {
		return own
	}
	return kept(f.Balls, func(ball int) bool { return ball == 8 })
}

// isOwn reports whether a ball of eight ball is for the player to hit, as long as there is one.
func (f frame) isOwn(ball int) bool {
	return ball != 8 && (f.Group == 0 || f.Group == groupOf(ball, f.Turn))
}

// groupOf returns the group in which a player has a ball.
func groupOf(ball, player int) int {
	if (ball < 8) == (player == 0) {
		return 1
	}
	return 2
}

// same reports whether two states are equal.
func same(a, b State) bool {
	return slices.Equal(a.Balls, b.Balls) &&
		a.Turn == b.Turn && a.Break == b.Break && a.Hand == b.Hand && a.Push == b.Push && a.Pushed == b.Pushed &&
		a.Group == b.Group && a.Scores == b.Scores && a.Fouls == b.Fouls && a.Run == b.Run && a.Racks == b.Racks &&
		a.Over == b.Over && a.Winner == b.Winner
}
