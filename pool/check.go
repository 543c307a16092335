package pool

import (
	"baulk/api"
	"baulk/errno"
)

const (
	straight = "straight"
	eight    = "eight"
	nine     = "nine"
)

// The numbers of a shot.
const (
	maxBall   = 15
	maxPocket = 6
	maxPots   = maxBall + 1 // with the cue ball
)

// CheckRules returns the first error of rules, or OK.
func CheckRules(r Rules) api.Errno {
	switch r.Game {
	case straight:
		return errno.First(errno.Range(r.Target, 1, MaxTarget), limitError(r.Fouls))
	case eight, nine:
		return errno.First(errno.Range(r.Target, 0, 0), limitError(r.Fouls))
	}
	return api.ErrKind
}

// limitError returns the error of a limit of fouls. A limit of 1 is none: it would end each frame with its first foul.
func limitError(n int) api.Errno {
	if n == 0 {
		return api.OK
	}
	return errno.Range(n, 2, MaxFouls)
}

// CheckShot returns the first error of a shot by itself, or OK.
func CheckShot(x Shot) api.Errno {
	_, isKind := kinds()[x.Kind]
	return errno.First(
		errno.Range(x.Player, 0, 1),
		errno.If(!isKind, api.ErrKind),
		errno.Range(x.Ball, 0, maxBall),
		errno.Range(x.Pocket, 0, maxPocket),
		errno.Range(x.First, 0, maxBall),
		errno.If((x.Ball == 0) != (x.Pocket == 0), api.ErrShape),
		potsError(x.Pots),
		errno.If(isWord(x) && !isBare(x), api.ErrForm),
	)
}

// potsError returns the first error of what was pocketed.
func potsError(pots []Pot) api.Errno {
	if len(pots) > maxPots {
		return api.ErrMany
	}
	var isIn [maxBall + 1]bool
	for _, p := range pots {
		if e := errno.First(errno.Range(p.Ball, 0, maxBall), errno.Range(p.Pocket, 1, maxPocket)); e != api.OK {
			return e
		}
		if isIn[p.Ball] {
			return api.ErrTwice
		}
		isIn[p.Ball] = true
	}
	return api.OK
}

// isWord reports whether a shot is only said, and no ball is played.
func isWord(x Shot) bool { return x.Kind == "pass" || x.Kind == "concede" }

// isBare reports whether a shot has nothing but its player and its kind.
func isBare(x Shot) bool {
	return x.Ball == 0 && x.Pocket == 0 && x.First == 0 && !x.Cushion && len(x.Pots) == 0
}

// CheckLog returns the first error of a log, or OK.
func CheckLog(l []Shot) api.Errno {
	if len(l) > api.MaxShots {
		return api.ErrMany
	}
	for _, x := range l {
		if e := CheckShot(x); e != api.OK {
			return e
		}
	}
	return api.OK
}

// CheckState returns the first error of rules and a state, or OK.
func CheckState(r Rules, s State) api.Errno {
	return errno.First(
		CheckRules(r),
		sidesError(r, s),
		ballsError(r, s.Balls),
		countsError(r, s),
		errno.If(!pushFits(r, s), api.ErrState),
		errno.If(!s.Over && !goesOn(r, s), api.ErrState),
	)
}

// sidesError returns ErrRange for players and a group that do not exist.
func sidesError(r Rules, s State) api.Errno {
	groups := 0
	if r.Game == eight {
		groups = 2
	}
	return errno.First(errno.Range(s.Turn, 0, 1), errno.Range(s.Winner, 0, 1), errno.Range(s.Group, 0, groups))
}

// ballsError returns the error of the first ball with one.
func ballsError(r Rules, balls []int) api.Errno {
	before := 0
	for _, ball := range balls {
		e := errno.First(errno.Range(ball, 1, rackSize(r.Game)), errno.If(ball <= before, api.ErrOrder))
		if e != api.OK {
			return e
		}
		before = ball
	}
	return api.OK
}

// countsError returns ErrRange for scores, fouls, a run or racks out of their ranges.
func countsError(r Rules, s State) api.Errno {
	fouls := MaxScore
	switch {
	case r.Fouls != 0 && s.Over:
		fouls = r.Fouls
	case r.Fouls != 0:
		fouls = r.Fouls - 1
	}
	return errno.First(
		errno.Range(s.Scores[0], -MaxScore, MaxScore),
		errno.Range(s.Scores[1], -MaxScore, MaxScore),
		errno.Range(s.Fouls[0], 0, fouls),
		errno.Range(s.Fouls[1], 0, fouls),
		errno.Range(s.Run, 0, MaxScore),
		errno.Range(s.Racks, 1, api.MaxShots),
	)
}

// pushFits reports whether a push is permitted, or has just been made, only where this is possible.
func pushFits(r Rules, s State) bool {
	if !s.Push && !s.Pushed {
		return true
	}
	return r.Game == nine && s.Push != s.Pushed && !s.Break
}

// goesOn reports whether a state is possible while its frame is not over.
func goesOn(r Rules, s State) bool {
	if s.Winner != 0 || len(s.Balls) == 0 {
		return false
	}
	switch last := (frame{State: s, rules: r}); r.Game {
	case eight:
		return last.has(8)
	case nine:
		return last.has(9)
	}
	return true
}
