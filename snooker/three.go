package snooker

import (
	"slices"
	"strconv"
)

// play is the only phase of billiards and carom.
const play = "play"

// threeKind returns what billiards and carom have in common.
func threeKind() kind {
	isBall := func(ball string) bool { return ball == white || ball == yellow || ball == red }
	return kind{
		phases:   []string{play},
		isBall:   isBall,
		isTarget: isBall,
		on:       func(f frame) []string { return []string{cue(f.other()), red} },
		mayCall:  func(_ frame, ball string) bool { return ball == "" },
		mayHit:   func(f frame, ball string) bool { return ball != cue(f.Turn) },
		supply:   func(frame, string) int { return 1 },
		text:     func(f frame) string { return "turn " + strconv.Itoa(f.Turn) },
	}
}

// cue returns the cue ball of a player.
func cue(player int) string {
	if player == 0 {
		return white
	}
	return yellow
}

// isCannon reports whether both other balls are hit.
func isCannon(f frame, e Entry) bool {
	return slices.Contains(e.Hits, red) && slices.Contains(e.Hits, cue(f.other()))
}

// reached reports whether a player has a score of at least the target.
func (f frame) reached(player int) bool { return f.Scores[player] >= f.game.Target }

// isReached reports whether either player has.
func (f frame) isReached() bool { return f.reached(0) || f.reached(1) }
