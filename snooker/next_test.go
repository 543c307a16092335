package snooker_test

import (
	"testing"

	"baulk/api"
	"baulk/snooker"
)

// Tests of P6.2 (rules): the states after entries.

// A nextRow is a legal entry in a state, with the state after it.
type nextRow struct {
	name  string
	s     snooker.State
	e     snooker.Entry
	after snooker.State
}

// testNext checks the states after entries of a game.
func testNext(t *testing.T, g snooker.Game, rows []nextRow) {
	t.Helper()
	for _, row := range rows {
		want(t, "the state before: "+row.name, all(snooker.CheckState(g, row.s)), all(api.OK))
		want(t, "Next: "+row.name, all(snooker.Next(g, row.s, row.e)), all(row.after, api.OK))
		want(t, "the state after: "+row.name, all(snooker.CheckState(g, row.after)), all(api.OK))
	}
}

// withReds changes the number of the reds, withStreak the streak, withTurns the turns, wonBy the winner.
func withReds(n int) func(s *snooker.State) { return func(s *snooker.State) { s.Reds = n } }

func withStreak(n int) func(s *snooker.State) { return func(s *snooker.State) { s.Streak = n } }

func withTurns(a, b int) func(s *snooker.State) {
	return func(s *snooker.State) { s.Turns = [2]int{a, b} }
}

func wonBy(winner int) func(s *snooker.State) {
	return func(s *snooker.State) { s.Winner = winner }
}

func TestNextActs(t *testing.T) {
	testNext(t, reds(3), []nextRow{
		{"again", state("red", scored(9, 9, 3), isFouled), act("again"), state("red", ofPlayer1, scored(9, 9, 0))},
		{"again by the player 1", state("final", ofPlayer1, scored(9, 9, 0), isFouled), act("again"), state("final", scored(9, 9, 0))},
		{"free", state("red", scored(9, 9, 3), isFouled), act("free"), state("red", scored(9, 9, 3), isFree)},
		{"free at black", state("final", at(7), ofPlayer1, isFouled), act("free"), state("final", at(7), ofPlayer1, isFree)},
		{"concede", state("red", scored(9, 8, 3)), act("concede"), state("red", scored(9, 8, 3), wonBy(1))},
		{"concede by the player 1", state("colour", ofPlayer1, scored(9, 12, 3)), act("concede"), state("colour", ofPlayer1, scored(9, 12, 3), wonBy(0))},
		{"concede when it is free", state("red", isFree), act("concede"), state("red", wonBy(1))},
		{"concede after a foul", state("final", isFouled), act("concede"), state("final", wonBy(1))},
	})
	testNext(t, billiards(50), []nextRow{
		{"concede", state("play", scored(9, 8, 3), withStreak(4)), act("concede"), state("play", scored(9, 8, 3), withStreak(4), wonBy(1))},
	})
	testNext(t, carom(50, 5), []nextRow{
		{"concede", state("play", scored(9, 8, 3), withTurns(4, 4)), act("concede"), state("play", scored(9, 8, 3), withTurns(4, 4), wonBy(1))},
		{"concede by the player 1", state("play", ofPlayer1, withTurns(2, 1)), act("concede"), state("play", ofPlayer1, withTurns(2, 1), wonBy(0))},
	})
}

func TestNextOfReds(t *testing.T) {
	testNext(t, reds(9), []nextRow{
		{"a red", state("red", withReds(9), scored(3, 4, 2)), shot("", "red", "red"), state("colour", withReds(8), scored(4, 4, 3))},
		{"the last red", state("red", ofPlayer1), shot("", "red", "red"), state("colour", ofPlayer1, scored(0, 1, 1))},
		{"three reds", state("red", withReds(3)), shot("", "red", "red red red"), state("colour", scored(3, 0, 3))},
		{"no red", state("red", scored(3, 4, 2)), shot("", "red", ""), state("red", ofPlayer1, scored(3, 4, 0))},
		{"a free ball", state("red", isFree), shot("blue", "blue", "blue"), state("colour", withReds(1), scored(1, 0, 1))},
		{"a free ball and the last red", state("red", isFree), shot("blue", "blue", "red blue"), state("colour", scored(2, 0, 2))},
		{"no free ball", state("red", isFree, scored(3, 3, 1)), shot("blue", "blue", ""), state("red", ofPlayer1, scored(3, 3, 0))},
		{"after a foul", state("red", isFouled, scored(0, 4, 0)), shot("", "red", "red"), state("colour", scored(1, 4, 1))},
		{"a foul", state("red", withReds(2), scored(3, 4, 2)), shot("", "", ""), state("red", withReds(2), ofPlayer1, scored(3, 8, 0), isFouled)},
		{"a foul with a red", state("red", withReds(2), scored(3, 4, 2)), shot("", "red", "black red"), state("red", ofPlayer1, scored(3, 11, 0), isFouled)},
		{"a foul with the last red", state("red", ofPlayer1, scored(3, 4, 2)), shot("", "red", "white red"), state("final", scored(7, 4, 0), isFouled)},
		{"a foul after a foul", state("red", isFouled), shot("", "pink", ""), state("red", ofPlayer1, scored(0, 6, 0), isFouled)},
		{"a foul at a free ball", state("red", isFree), shot("pink", "red", "pink"), state("red", ofPlayer1, scored(0, 4, 0), isFouled)},
	})
}

func TestNextOfColours(t *testing.T) {
	testNext(t, reds(9), []nextRow{
		{"a colour", state("colour", withReds(3), scored(3, 4, 2)), shot("pink", "pink", "pink"), state("red", withReds(3), scored(9, 4, 8))},
		{"a colour after the last red", state("colour", scored(3, 4, 2)), shot("pink", "pink", "pink"), state("final", scored(9, 4, 8))},
		{"no colour", state("colour", withReds(3), scored(3, 4, 2)), shot("pink", "pink", ""), state("red", withReds(3), ofPlayer1, scored(3, 4, 0))},
		{"no colour after the last red", state("colour", ofPlayer1), shot("pink", "pink", ""), state("final")},
		{"a foul", state("colour", withReds(3), scored(3, 4, 2)), shot("pink", "pink", "pink white"), state("red", withReds(3), ofPlayer1, scored(3, 10, 0), isFouled)},
		{"a foul after the last red", state("colour"), shot("yellow", "", ""), state("final", ofPlayer1, scored(0, 4, 0), isFouled)},
		{"a foul with a red", state("colour", withReds(3)), shot("black", "red", "red red"), state("red", ofPlayer1, scored(0, 7, 0), isFouled)},
		{"a foul with the last red", state("colour", withReds(3)), shot("black", "black", "red red red"), state("final", ofPlayer1, scored(0, 7, 0), isFouled)},
	})
}

func TestNextOfTheLastColours(t *testing.T) {
	testNext(t, reds(9), []nextRow{
		{"yellow", state("final", scored(1, 2, 1)), shot("", "yellow", "yellow"), state("final", at(3), scored(3, 2, 3))},
		{"no yellow", state("final", scored(1, 2, 1)), shot("", "yellow", ""), state("final", ofPlayer1, scored(1, 2, 0))},
		{"a foul with yellow", state("final"), shot("", "yellow", "yellow green"), state("final", ofPlayer1, scored(0, 4, 0), isFouled)},
		{"pink", state("final", at(6), ofPlayer1), shot("", "pink", "pink"), state("final", at(7), ofPlayer1, scored(0, 6, 6))},
		{"a foul at pink", state("final", at(6)), shot("", "", ""), state("final", at(6), ofPlayer1, scored(0, 6, 0), isFouled)},
		{"a free ball", state("final", isFree), shot("black", "black", "black"), state("final", scored(2, 0, 2))},
		{"yellow by a free ball", state("final", isFree), shot("black", "black yellow", "yellow"), state("final", at(3), scored(2, 0, 2))},
		{"both", state("final", isFree), shot("black", "black yellow", "yellow black"), state("final", at(3), scored(2, 0, 2))},
		{"black as a free ball", state("final", isFree, at(6)), shot("black", "black", "black"), state("final", at(6), scored(6, 0, 6))},
	})
}

func TestNextOfTheLastBlack(t *testing.T) {
	testNext(t, reds(9), []nextRow{
		{"black wins", state("final", at(7), scored(30, 30, 6)), shot("", "black", "black"), state("final", at(7), scored(37, 30, 13), wonBy(0))},
		{"black loses", state("final", at(7), scored(30, 40, 6)), shot("", "black", "black"), state("final", at(7), scored(37, 40, 13), wonBy(1))},
		{"black of the player 1 wins", state("final", at(7), ofPlayer1, scored(30, 40, 6)), shot("", "black", "black"), state("final", at(7), ofPlayer1, scored(30, 47, 13), wonBy(1))},
		{"black levels the scores", state("final", at(7), scored(30, 37, 6)), shot("", "black", "black"), state("final", at(7), ofPlayer1, scored(37, 37, 0))},
		{"black of the player 1 levels the scores", state("final", at(7), ofPlayer1, scored(37, 30, 6)), shot("", "black", "black"), state("final", at(7), scored(37, 37, 0))},
		{"no black", state("final", at(7), scored(30, 40, 6)), shot("", "black", ""), state("final", at(7), ofPlayer1, scored(30, 40, 0))},
		{"no black with equal scores", state("final", at(7), scored(30, 30, 6)), shot("", "black", ""), state("final", at(7), ofPlayer1, scored(30, 30, 0))},
		{"a foul wins", state("final", at(7), scored(40, 30, 6)), shot("", "", ""), state("final", at(7), ofPlayer1, scored(40, 37, 0), wonBy(0))},
		{"a foul loses", state("final", at(7), scored(30, 30, 6)), shot("", "black", "black white"), state("final", at(7), ofPlayer1, scored(30, 37, 0), wonBy(1))},
		{"a foul levels the scores", state("final", at(7), scored(37, 30, 6)), shot("", "", ""), state("final", at(7), ofPlayer1, scored(37, 37, 0), isFouled)},
		{"a foul of the player 1 levels the scores", state("final", at(7), ofPlayer1, scored(30, 37, 6)), shot("", "black", "black white"), state("final", at(7), scored(37, 37, 0), isFouled)},
		{"a foul at a free black", state("final", at(7), isFree), shot("", "", ""), state("final", at(7), ofPlayer1, scored(0, 7, 0), wonBy(1))},
	})
}

func TestNextOfBilliards(t *testing.T) {
	testNext(t, billiards(50), []nextRow{
		{"a cannon", state("play", scored(9, 8, 3), withStreak(3)), shot("", "red yellow", ""), state("play", scored(11, 8, 5))},
		{"a cannon and pots", state("play", withStreak(5)), shot("", "red yellow", "red"), state("play", scored(5, 0, 5))},
		{"red", state("play", ofPlayer1), shot("", "red", "red"), state("play", ofPlayer1, scored(0, 3, 3), withStreak(1))},
		{"the last one without a cannon", state("play", withStreak(4)), shot("", "red", "red"), state("play", scored(3, 0, 3), withStreak(5))},
		{"nothing", state("play", scored(9, 8, 3), withStreak(4)), shot("", "red", ""), state("play", ofPlayer1, scored(9, 8, 0))},
		{"no ball is hit", state("play", scored(9, 8, 3), withStreak(4)), shot("", "", ""), state("play", ofPlayer1, scored(9, 10, 0))},
		{"one too many", state("play", ofPlayer1, scored(9, 8, 3), withStreak(5)), shot("", "red", "red"), state("play", scored(11, 8, 0))},
		{"the target", state("play", scored(48, 8, 3)), shot("", "red yellow", ""), state("play", scored(50, 8, 5), wonBy(0))},
		{"more than the target", state("play", ofPlayer1, scored(49, 49, 3), withStreak(2)), shot("", "red", "red"), state("play", ofPlayer1, scored(49, 52, 6), withStreak(3), wonBy(1))},
		{"less than the target", state("play", scored(47, 8, 3)), shot("", "red yellow", ""), state("play", scored(49, 8, 5))},
		{"a foul that wins", state("play", ofPlayer1, scored(48, 49, 3)), shot("", "", ""), state("play", scored(50, 49, 0), wonBy(0))},
	})
}

func TestNextOfCarom(t *testing.T) {
	testNext(t, carom(5, 3), []nextRow{
		{"a point", state("play", scored(2, 3, 1)), cannon("red yellow", 3), state("play", scored(3, 3, 2))},
		{"no point", state("play", scored(2, 3, 1)), cannon("red yellow", 2), state("play", ofPlayer1, scored(2, 3, 0), withTurns(1, 0))},
		{"the target", state("play", scored(4, 3, 1)), cannon("red yellow", 3), state("play", ofPlayer1, scored(5, 3, 0), withTurns(1, 0))},
		{"a point of the player 1", state("play", ofPlayer1, withTurns(2, 1)), cannon("red white", 3), state("play", ofPlayer1, withTurns(2, 1), scored(0, 1, 1))},
		{"a point against the target", state("play", ofPlayer1, withTurns(2, 1), scored(5, 3, 0)), cannon("red white", 3), state("play", ofPlayer1, withTurns(2, 1), scored(5, 4, 1))},
		{"the target of both", state("play", ofPlayer1, withTurns(2, 1), scored(5, 4, 1)), cannon("red white", 3), state("play", withTurns(2, 2), scored(5, 5, 0), wonBy(2))},
		{"the target of the player 1", state("play", ofPlayer1, withTurns(2, 1), scored(4, 4, 1)), cannon("red white", 3), state("play", withTurns(2, 2), scored(4, 5, 0), wonBy(1))},
		{"the target of the player 0", state("play", ofPlayer1, withTurns(2, 1), scored(5, 4, 1)), cannon("red white", 2), state("play", withTurns(2, 2), scored(5, 4, 0), wonBy(0))},
		{"no point of the player 1", state("play", ofPlayer1, withTurns(2, 1), scored(4, 4, 1)), cannon("", 0), state("play", withTurns(2, 2), scored(4, 4, 0))},
		{"the last turn of the player 0", state("play", withTurns(2, 2), scored(4, 3, 1)), cannon("", 0), state("play", ofPlayer1, withTurns(3, 2), scored(4, 3, 0))},
		{"the last turn", state("play", ofPlayer1, withTurns(3, 2), scored(4, 3, 1)), cannon("", 0), state("play", withTurns(3, 3), scored(4, 3, 0), wonBy(0))},
		{"the last turn of the better player 1", state("play", ofPlayer1, withTurns(3, 2), scored(2, 3, 1)), cannon("", 0), state("play", withTurns(3, 3), scored(2, 3, 0), wonBy(1))},
		{"the last turn with equal scores", state("play", ofPlayer1, withTurns(3, 2), scored(3, 3, 1)), cannon("", 0), state("play", withTurns(3, 3), scored(3, 3, 0), wonBy(2))},
		{"a point in the last turn", state("play", ofPlayer1, withTurns(3, 2), scored(3, 3, 1)), cannon("red white", 3), state("play", ofPlayer1, withTurns(3, 2), scored(3, 4, 2))},
		{"a player 1 beyond the target, with a point", state("play", ofPlayer1, withTurns(1, 0), scored(3, 7, 0)), cannon("red white", 3), state("play", withTurns(1, 1), scored(3, 8, 0), wonBy(1))},
	})
}
