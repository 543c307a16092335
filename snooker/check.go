package snooker

import (
	"slices"

	"baulk/api"
	"baulk/errno"
)

// The kinds of entries.
const (
	shot    = "shot"
	again   = "again"
	free    = "free"
	concede = "concede"
)

const (
	maxBalls    = 22 // in each list of a shot
	maxCushions = 99
)

// CheckGame returns the first error of a game, or OK.
func CheckGame(g Game) api.Errno {
	k, ok := kinds()[g.Kind]
	return errno.First(
		errno.If(!ok, api.ErrKind),
		limitError(g.Reds, k.most.Reds),
		limitError(g.Target, k.most.Target),
		limitError(g.Turns, k.most.Turns),
	)
}

// limitError returns the error of a number of a game that is from 1 on, or 0 if the game has none.
func limitError(n, most int) api.Errno { return errno.Range(n, min(most, 1), most) }

// CheckState returns the first error of a game and a state, or OK.
func CheckState(g Game, s State) api.Errno {
	if e := errno.First(CheckGame(g), numbersError(g, s)); e != api.OK {
		return e
	}
	f := newFrame(g, s)
	return errno.First(
		errno.If(!slices.Contains(f.kind.phases, s.Phase), api.ErrKind),
		errno.If(!f.isPossible(), api.ErrState),
	)
}

// numbersError returns ErrRange for a number of a state that is out of its range.
func numbersError(g Game, s State) api.Errno {
	return errno.First(
		errno.Range(s.Turn, 0, 1),
		errno.Range(s.Scores[0], 0, MaxScore),
		errno.Range(s.Scores[1], 0, MaxScore),
		errno.Range(s.Break, 0, MaxScore),
		errno.Range(s.Reds, 0, g.Reds),
		errno.Range(s.Colour, 0, greatestColour),
		errno.Range(s.Streak, 0, Streak),
		errno.Range(s.Turns[0], 0, g.Turns),
		errno.Range(s.Turns[1], 0, g.Turns),
		errno.Range(s.Winner, nobody, drawn),
	)
}

// isPossible reports whether the parts of a state, each of which is in its range, fit together.
func (f frame) isPossible() bool {
	return f.Break <= f.Scores[f.Turn] && f.kind.own(f.State) == f.State && f.kind.fits(f)
}

// CheckEntry returns the first error of an entry, or OK.
func CheckEntry(g Game, e Entry) api.Errno {
	if e := CheckGame(g); e != api.OK {
		return e
	}
	return kinds()[g.Kind].entryError(e)
}

// CheckLog returns the first error of a log, or OK.
func CheckLog(g Game, l []Entry) api.Errno {
	if e := errno.First(CheckGame(g), errno.If(len(l) > api.MaxShots, api.ErrMany)); e != api.OK {
		return e
	}
	k := kinds()[g.Kind]
	for _, entry := range l {
		if e := k.entryError(entry); e != api.OK {
			return e
		}
	}
	return api.OK
}

// entryError returns the error of an entry of a game of the kind.
func (k kind) entryError(e Entry) api.Errno {
	switch e.Kind {
	case shot:
		return k.shotError(e)
	case again, free, concede:
		return errno.If(e.Called != "" || len(e.Hits) > 0 || len(e.Pots) > 0 || e.Cushions != 0, api.ErrForm)
	}
	return api.ErrKind
}

// shotError returns the error of what was reported of a shot.
func (k kind) shotError(e Entry) api.Errno {
	if len(e.Hits) > maxBalls || len(e.Pots) > maxBalls {
		return api.ErrMany
	}
	isNoTarget := func(ball string) bool { return !k.isTarget(ball) }
	isNoBall := func(ball string) bool { return !k.isBall(ball) }
	return errno.First(
		errno.If(e.Called != "" && !isColour(e.Called), api.ErrUnknown),
		errno.If(slices.ContainsFunc(e.Hits, isNoTarget), api.ErrUnknown),
		errno.If(slices.ContainsFunc(e.Pots, isNoBall), api.ErrUnknown),
		errno.Range(e.Cushions, 0, maxCushions),
		errno.If(!k.isReport(e), api.ErrForm),
	)
}
