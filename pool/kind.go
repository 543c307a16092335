package pool

import (
	"slices"

	"baulk/rule"
)

// question is what can be asked about a shot in the frame before it.
type question func(f frame, x Shot) bool

// kind is what the kinds of shots differ in.
type kind struct {
	outOfTurn question // whether the rule 2 refuses the shot
	untimely  question // the rule 3
	forbidden question // the rule 4
	miscalled question // the rule 5
	foul      func(f frame, x Shot) int
	good      question // whether the shot is good if it is no foul
	next      func(f frame, x Shot) frame
}

// kinds returns the kinds of shots by their names.
func kinds() map[string]kind {
	never := func(frame, Shot) bool { return false }
	due := func(f frame, _ Shot) bool { return f.Break }
	notDue := func(f frame, _ Shot) bool { return !f.Break }
	noPush := func(f frame, _ Shot) bool { return !f.Push }
	notPushed := func(f frame, _ Shot) bool { return !f.Pushed }
	calls := func(_ frame, x Shot) bool { return x.Ball != 0 }
	none := func(frame, Shot) int { return 0 }
	return map[string]kind{
		"break":   {isOutOfTurn, notDue, never, calls, strokeFoul, breaksWell, struck},
		"play":    {isOutOfTurn, due, never, callsBadly, strokeFoul, playsWell, struck},
		"safety":  {isOutOfTurn, due, never, calls, strokeFoul, never, struck},
		"push":    {isOutOfTurn, due, noPush, calls, pushFoul, never, struck},
		"pass":    {isOutOfTurn, due, notPushed, calls, none, never, passed},
		"concede": {never, never, never, calls, none, never, conceded},
	}
}

func isOutOfTurn(f frame, x Shot) bool { return x.Player != f.Turn }

// callsBadly reports whether the call of a play is refused.
func callsBadly(f frame, x Shot) bool {
	if f.is(nine) {
		return x.Ball != 0
	}
	return !f.has(x.Ball)
}

// strokeFoul returns the foul of a shot that has to hit a target and to move something.
func strokeFoul(f frame, x Shot) int {
	return rule.First(
		func() bool { return pocketsCueBall(x) },
		func() bool { return x.First == 0 },
		func() bool { return !slices.Contains(f.targets(), x.First) },
		func() bool { return !x.Cushion && len(objects(x)) == 0 },
	)
}

// pushFoul returns the foul of a push.
func pushFoul(_ frame, x Shot) int {
	return rule.First(
		func() bool { return pocketsCueBall(x) },
		func() bool { return x.First == 0 },
	)
}

// breaksWell reports whether a break that is no foul is good.
func breaksWell(f frame, x Shot) bool { return !f.is(straight) && len(objects(x)) > 0 }

// playsWell reports whether a play that is no foul is good.
func playsWell(f frame, x Shot) bool {
	if f.is(nine) {
		return len(objects(x)) > 0
	}
	called := Pot{Ball: x.Ball, Pocket: x.Pocket}
	return slices.ContainsFunc(x.Pots, func(p Pot) bool { return p == called })
}

// objects returns the object balls that a shot pocketed.
func objects(x Shot) []Pot {
	return kept(x.Pots, func(p Pot) bool { return p.Ball != 0 })
}

// pockets reports whether a shot pocketed a ball.
func pockets(x Shot, ball int) bool {
	return slices.ContainsFunc(x.Pots, func(p Pot) bool { return p.Ball == ball })
}

func pocketsCueBall(x Shot) bool { return pockets(x, 0) }
