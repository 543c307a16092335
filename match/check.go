package match

import (
	"baulk/api"
	"baulk/errno"
	"baulk/number"
)

// CheckOdds returns the first error of odds, or OK.
func CheckOdds(o Odds) api.Errno {
	_, e := readOdds(o)
	return e
}

// CheckRace returns the first error of a race, or OK.
func CheckRace(r Race) api.Errno {
	return errno.First(
		framesError(r.Need[0]),
		framesError(r.Need[1]),
		orderError(r.Order),
		playerError(r.Breaker),
	)
}

func framesError(n int) api.Errno { return errno.Range(n, 1, api.MaxRace) }

func playerError(n int) api.Errno { return errno.Range(n, 0, 1) }

// CheckMatch returns the first error of a match, or OK.
func CheckMatch(m Match) api.Errno {
	return errno.First(
		errno.If(!number.IsName(m.Players[0]) || !number.IsName(m.Players[1]), api.ErrName),
		errno.If(m.Players[0] == m.Players[1], api.ErrTwice),
		errno.Range(m.Sets, 1, MaxSets),
		framesError(m.Frames),
		orderError(m.Order),
		errno.Range(m.Starts[0], 0, m.Frames-1),
		errno.Range(m.Starts[1], 0, m.Frames-1),
		errno.Range(m.Clock, 0, MaxClock),
		errno.Range(m.Outs, 0, MaxOuts),
	)
}

// CheckState returns the first error of a match and a state, or OK.
func CheckState(m Match, s State) api.Errno {
	c := contest{State: s, match: m}
	return errno.First(CheckMatch(m), c.numbersError(), c.pastError(), c.endError(), c.runningError())
}

// numbersError returns ErrRange for a number that is out of its range.
func (c contest) numbersError() api.Errno {
	e := errno.First(errno.Range(c.Winner, nobody, 1), playerError(c.Breaker))
	for player := range 2 {
		e = errno.First(
			e,
			errno.Range(c.Sets[player], 0, c.match.Sets),
			errno.Range(c.Frames[player], c.match.Starts[player], c.match.Frames-1),
			errno.Range(c.Outs[player], 0, c.match.Outs),
		)
	}
	return e
}

// pastError returns the error of the sets before.
func (c contest) pastError() api.Errno {
	if len(c.Past) != c.Sets[0]+c.Sets[1] {
		return api.ErrShape
	}
	var sets [2]int
	for _, frames := range c.Past {
		if e := c.match.setError(frames); e != api.OK {
			return e
		}
		if frames[0] == c.match.Frames {
			sets[0]++
		} else {
			sets[1]++
		}
	}
	return errno.If(sets != c.Sets, api.ErrConflict)
}

// setError returns the error of the frames of a set that has been won.
func (m Match) setError(frames [2]int) api.Errno {
	return errno.First(
		errno.Range(frames[0], m.Starts[0], m.Frames),
		errno.Range(frames[1], m.Starts[1], m.Frames),
		errno.If((frames[0] == m.Frames) == (frames[1] == m.Frames), api.ErrForm),
	)
}

// endError returns ErrState for a player who has won enough sets, and is not the winner.
func (c contest) endError() api.Errno {
	for player, sets := range c.Sets {
		if sets == c.match.Sets && c.Winner != player {
			return api.ErrState
		}
	}
	return api.OK
}

// runningError returns ErrState for warnings or a frame that there cannot be.
func (c contest) runningError() api.Errno {
	isWarned := c.Warned != [2]bool{}
	canWarn := c.Running && c.match.Clock > 0
	return errno.If(isWarned && !canWarn || c.isOver() && c.Running, api.ErrState)
}

// CheckLog returns the first error of a match and a log, or OK.
func CheckLog(m Match, l []Entry) api.Errno {
	if e := errno.First(CheckMatch(m), errno.If(len(l) > api.MaxShots, api.ErrMany)); e != api.OK {
		return e
	}
	for _, entry := range l {
		if e := entryError(entry); e != api.OK {
			return e
		}
	}
	return api.OK
}

// entryError returns the first error of an entry by itself.
func entryError(e Entry) api.Errno {
	k, isKind := kinds()[e.Kind]
	return errno.First(
		playerError(e.Player),
		errno.If(!isKind, api.ErrKind),
		errno.Range(e.Value, 0, api.MaxNumber),
		errno.If(!k.hasValue && e.Value != 0, api.ErrForm),
	)
}
