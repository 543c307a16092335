package snooker

// billiardsKind returns the game of billiards.
func billiardsKind() kind {
	k := threeKind()
	k.most = Game{Target: MaxTarget}
	k.isReport = func(e Entry) bool { return e.Called == "" && e.Cushions == 0 }
	k.own = withoutColours
	k.fits = func(f frame) bool { return f.Winner != drawn && (f.isOver() || !f.isReached()) }
	k.judged = judgedBilliards
	k.played = playedBilliards
	return k
}

// billiardsPenalty is what each foul of billiards costs.
const billiardsPenalty = 2

// judgedBilliards returns what a shot of billiards is worth.
func judgedBilliards(f frame, e Entry) Verdict {
	switch {
	case len(e.Hits) == 0:
		return Verdict{Foul: noHit, Penalty: billiardsPenalty}
	case len(e.Pots) > 0 && !isCannon(f, e) && f.Streak == Streak:
		return Verdict{Foul: longStreak, Penalty: billiardsPenalty}
	}
	points := 3*count(e.Pots, red) + 2*count(e.Pots, cue(f.other()))
	if isCannon(f, e) {
		points += 2
	}
	own := 2
	if e.Hits[0] == red {
		own = 3
	}
	points += own * count(e.Pots, cue(f.Turn))
	return Verdict{Points: points, Stays: points > 0}
}

// playedBilliards returns the frame of billiards after a shot.
func playedBilliards(s stroke, n frame) frame {
	switch {
	case isCannon(s.before, s.Entry):
		n.Streak = 0
	case s.Stays:
		n.Streak++
	}
	if n.isReached() { // by the one score that has risen, so that it is the greater one
		return n.won(n.leader())
	}
	return n
}
