package snooker

// leastCushions is how many cushions a cannon of carom needs.
const leastCushions = 3

// caromKind returns the game of carom.
func caromKind() kind {
	k := threeKind()
	k.most = Game{Target: MaxTarget, Turns: MaxTurns}
	k.isReport = func(e Entry) bool { return e.Called == "" && len(e.Pots) == 0 }
	k.own = func(s State) State { return withoutStreak(withoutColours(s)) }
	k.fits = fitsCarom
	k.judged = judgedCarom
	k.played = playedCarom
	return k
}

// fitsCarom reports whether the turns and the scores of a state of carom are possible. The player 0 can have reached the
// target in the turn of the player 1, who may still draw level.
func fitsCarom(f frame) bool {
	ahead := f.Turns[0] - f.Turns[1]
	switch {
	case f.isOver():
		return ahead == 0 || ahead == 1 && f.Turn == 1
	case f.Turn == 1:
		return ahead == 1
	}
	return ahead == 0 && f.Turns[0] < f.game.Turns && !f.isReached()
}

// judgedCarom returns what a shot of carom is worth.
func judgedCarom(f frame, e Entry) Verdict {
	if isCannon(f, e) && e.Cushions >= leastCushions {
		return Verdict{Points: 1, Stays: true}
	}
	return Verdict{}
}

// playedCarom returns the frame of carom after a shot.
func playedCarom(s stroke, n frame) frame {
	player := s.before.Turn
	if s.Stays && !n.reached(player) {
		return n
	}
	n.Turns[player]++
	n.Turn, n.Break = 1-player, 0
	if player == 1 && (n.isReached() || n.Turns[1] == n.game.Turns) {
		return n.won(n.leader())
	}
	return n
}
