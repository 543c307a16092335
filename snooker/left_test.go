package snooker_test

import (
	"fmt"
	"testing"

	"baulk/api"
	"baulk/snooker"
)

// Tests of P6.4 (what is left).

func TestLeft(t *testing.T) {
	for _, row := range []struct {
		s    snooker.State
		left int
	}{
		{state("red"), 35},
		{state("red", isFouled), 35},
		{state("red", isFree), 43},
		{state("red", withReds(15)), 147},
		{state("red", withReds(15), isFree), 155},
		{state("red", wonBy0), 0},
		{state("colour"), 34},
		{state("colour", withReds(14)), 146},
		{state("colour", withReds(14), wonBy0), 0},
		{state("final"), 27},
		{state("final", isFouled), 27},
		{state("final", isFree), 29},
		{state("final", at(3)), 25},
		{state("final", at(3), isFree), 28},
		{state("final", at(6)), 13},
		{state("final", at(6), isFree), 19},
		{state("final", at(7)), 7},
		{state("final", at(7), isFree), 7},
		{state("final", at(7), wonBy0), 0},
	} {
		want(t, fmt.Sprintf("Left in %+v", row.s), all(snooker.Left(reds(15), row.s)), all(row.left, api.OK))
	}
	wantError(t, "Left of a wrong game", all(snooker.Left(reds(16), state("red"))), api.ErrRange)
	wantError(t, "Left in a wrong state", all(snooker.Left(reds(1), state("red", wonBy(2)))), api.ErrState)
	wantError(t, "Left in a state that is not possible", all(snooker.Left(billiards(5), state("play", isFree))), api.ErrState)
	wantError(t, "Left of billiards", all(snooker.Left(billiards(5), state("play"))), api.ErrKind)
	wantError(t, "Left of carom", all(snooker.Left(carom(5, 5), state("play", wonBy0))), api.ErrKind)
}

func TestNeeded(t *testing.T) {
	for _, row := range []struct {
		behind int
		s      snooker.State
		fouls  int
	}{
		{40, state("final", at(3)), 4},
		{41, state("final", at(3)), 4},
		{42, state("final", at(3)), 5},
		{37, state("final", at(3)), 3},
		{26, state("final", at(3)), 1},
		{25, state("final", at(3)), 0},
		{0, state("final", at(3)), 0},
		{28, state("final", at(3), isFree), 0},
		{29, state("final", at(3), isFree), 1},
		{36, state("red"), 1},
		{99999, state("final", at(7)), 24998},
	} {
		for player := range 2 {
			for _, ahead := range []int{0, min(7, 99999-row.behind)} {
				row.s.Scores[player], row.s.Scores[1-player] = ahead, ahead+row.behind
				what := fmt.Sprintf("Needed by %d in %+v", player, row.s)
				want(t, what, all(snooker.Needed(reds(1), row.s, player)), all(row.fouls, api.OK))
				want(t, what+", of the other one", all(snooker.Needed(reds(1), row.s, 1-player)), all(0, api.OK))
			}
		}
	}
	wantError(t, "Needed of a wrong game", all(snooker.Needed(snooker.Game{}, state("red"), 2)), api.ErrKind)
	wantError(t, "Needed in a wrong state", all(snooker.Needed(reds(1), state("red", wonBy0, isFree), 2)), api.ErrState)
	wantError(t, "Needed by the player 2", all(snooker.Needed(carom(5, 5), state("play", wonBy0), 2)), api.ErrRange)
	wantError(t, "Needed by the player -1", all(snooker.Needed(reds(1), state("red", wonBy0), -1)), api.ErrRange)
	wantError(t, "Needed in carom", all(snooker.Needed(carom(5, 5), state("play", wonBy0), 0)), api.ErrKind)
	wantError(t, "Needed in billiards", all(snooker.Needed(billiards(5), state("play"), 1)), api.ErrKind)
	wantError(t, "Needed after the end", all(snooker.Needed(reds(1), state("red", wonBy0), 1)), api.ErrOver)
}

func TestLine(t *testing.T) {
	for _, row := range []struct {
		g    snooker.Game
		s    snooker.State
		line string
	}{
		{reds(1), state("final", scored(8, 0, 8)), "8:0 final 2"},
		{reds(1), state("final", at(3), ofPlayer1, scored(8, 8, 4)), "8:8 final 3"},
		{reds(15), state("red", withReds(15), ofPlayer1), "0:0 red 15"},
		{reds(15), state("red", isFree, scored(99999, 12345, 0)), "99999:12345 red 1"},
		{reds(15), state("colour", withReds(14), scored(1, 0, 1)), "1:0 colour 14"},
		{reds(15), state("colour"), "0:0 colour 0"},
		{reds(15), state("colour", wonBy(1), scored(30, 7, 0)), "30:7 won 1"},
		{reds(15), state("final", at(7), wonBy(0), scored(30, 7, 0)), "30:7 won 0"},
		{billiards(50), state("play", scored(30, 7, 0), withStreak(3)), "30:7 turn 0"},
		{billiards(50), state("play", ofPlayer1, scored(30, 7, 0)), "30:7 turn 1"},
		{billiards(50), state("play", wonBy(0), scored(51, 7, 0)), "51:7 won 0"},
		{carom(50, 5), state("play", ofPlayer1, scored(3, 4, 0), withTurns(1, 0)), "3:4 turn 1"},
		{carom(50, 5), state("play", scored(4, 4, 0), withTurns(5, 5), wonBy(2)), "4:4 drawn"},
		{carom(50, 5), state("play", scored(3, 4, 0), withTurns(5, 5), wonBy(1)), "3:4 won 1"},
	} {
		want(t, fmt.Sprintf("Line of %+v", row.s), all(snooker.Line(row.g, row.s)), all(row.line, api.OK))
	}
	wantError(t, "Line of a wrong game", all(snooker.Line(carom(5, 0), state("play"))), api.ErrRange)
	wantError(t, "Line of a wrong state", all(snooker.Line(carom(5, 5), state("red"))), api.ErrRange)
	wantError(t, "Line in no phase", all(snooker.Line(carom(5, 5), state("final"))), api.ErrKind)
}
