package match

import (
	"strconv"
	"strings"

	"baulk/exact"
)

// line returns the text of the score.
func (c contest) line() string {
	var list []string
	for _, frames := range c.Past {
		list = append(list, pair(frames))
	}
	if c.Frames != c.match.Starts {
		list = append(list, pair(c.Frames))
	}
	if len(list) == 0 {
		return pair(c.Sets)
	}
	return pair(c.Sets) + " (" + strings.Join(list, ", ") + ")"
}

// pair returns the text of what both players have.
func pair(n [2]int) string { return strconv.Itoa(n[0]) + ":" + strconv.Itoa(n[1]) }

// set returns the race that a set is from some frames on.
func (m Match) set(frames [2]int, breaker int) Race {
	return Race{Need: [2]int{m.Frames - frames[0], m.Frames - frames[1]}, Order: m.Order, Breaker: breaker}
}

// sets returns the race for sets that the match is from the set on that is played. A set is broken by who breaks its first
// frame.
func (c contest) sets() Race {
	need := [2]int{c.match.Sets - c.Sets[0], c.match.Sets - c.Sets[1]}
	return Race{Need: need, Order: alternate, Breaker: c.firstBreaker()}
}

// remaining returns how many frames are still won at least, and at most.
func (c contest) remaining() [2]int {
	if c.isOver() {
		return [2]int{}
	}
	sets, now, later := c.sets(), c.match.set(c.Frames, 0), c.match.set(c.match.Starts, 0)
	// It is nearest that one player wins all, as a set that has begun needs no more frames than another one.
	least := func(player int) int { return now.Need[player] + (sets.Need[player]-1)*later.Need[player] }
	most := now.most() + (sets.most()-1)*later.most()
	return [2]int{min(least(0), least(1)), most}
}

// live returns the chance of the first player to win the match.
func (c contest) live(o odds) exact.Ratio {
	if c.isOver() {
		return exact.Whole(1 - c.Winner).Ratio()
	}
	chance := func(frames [2]int, breaker int) exact.Fraction {
		return c.match.set(frames, breaker).outcomes(o).chance().Fraction()
	}
	sets, now := c.sets(), chance(c.Frames, c.Breaker)
	if sets.most() == 1 {
		return now.Ratio()
	}
	first := newOdds(now, now).modulo(o.modulus)
	later := newOdds(chance(c.match.Starts, 0), chance(c.match.Starts, 1)).modulo(o.modulus)
	return sets.outcomesAfter(first, later).chance()
}
