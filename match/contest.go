package match

import (
	"slices"

	"baulk/rule"
)

// nobody is the winner of a match that goes on.
const nobody = -1

// contest is a match that is played. It is a value: the list of its sets can belong to others, and is never changed.
type contest struct {
	State
	match Match
}

// start returns the match at the beginning.
func (m Match) start() contest {
	return contest{State: State{Frames: m.Starts, Winner: nobody}, match: m}
}

// result returns the state of the match as new memory.
func (c contest) result() State {
	s := c.State
	s.Past = slices.Clone(s.Past)
	return s
}

func (c contest) isOver() bool { return c.Winner != nobody }

// refusal returns the least rule that an entry breaks, 0 if there is none.
func (c contest) refusal(e Entry) int {
	return rule.First(
		func() bool { return c.isOver() },
		func() bool { return e.Kind == breaks && c.Running },
		func() bool { return e.Kind == breaks && e.Player != c.Breaker },
		func() bool { return kinds()[e.Kind].inFrame && !c.Running },
		func() bool { return e.Kind == shot && c.match.Clock == 0 },
		func() bool { return e.Kind == out && c.Outs[e.Player] == c.match.Outs },
	)
}

// next returns the match after a legal entry.
func (c contest) next(e Entry) contest { return kinds()[e.Kind].done(c, e) }

// begun returns the match with a frame that is played.
func (c contest) begun() contest {
	c.Running = true
	return c
}

// played returns the match after a shot.
func (c contest) played(e Entry) contest {
	switch {
	case e.Value <= c.match.Clock:
		return c
	case c.Warned[e.Player]:
		return c.frameWon(1 - e.Player)
	}
	c.Warned[e.Player] = true
	return c
}

// paused returns the match after a time out of a player.
func (c contest) paused(player int) contest {
	c.Outs[player]++
	return c
}

// stopped returns the match without a frame that is played.
func (c contest) stopped() contest {
	c.Running, c.Warned = false, [2]bool{}
	return c
}

// won returns the match as a player has won it.
func (c contest) won(player int) contest {
	c.Winner = player
	return c.stopped()
}

// frameWon returns the match after a frame that a player has won.
func (c contest) frameWon(player int) contest {
	n := c.stopped()
	n.Frames[player]++
	if n.Frames[player] == n.match.Frames {
		return n.setWon(player)
	}
	n.Breaker = nextBreaker(n.match.Order, n.Breaker, player)
	return n
}

// setWon returns the match after a set that a player has won.
func (c contest) setWon(player int) contest {
	c.Past = append(slices.Clone(c.Past), c.Frames)
	c.Sets[player]++
	c.Frames, c.Outs = c.match.Starts, [2]int{}
	c.Breaker = c.firstBreaker()
	if c.Sets[player] == c.match.Sets {
		return c.won(player)
	}
	return c
}

// firstBreaker returns who breaks the first frame of the set that is played.
func (c contest) firstBreaker() int { return (c.Sets[0] + c.Sets[1]) % 2 }
