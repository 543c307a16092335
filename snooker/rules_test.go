package snooker_test

import (
	"fmt"
	"testing"

	"baulk/api"
	"baulk/snooker"
)

// Tests of P6.2 (rules).

func isFree(s *snooker.State) { s.Free = true }

func isFouled(s *snooker.State) { s.Fouled = true }

func ofPlayer1(s *snooker.State) { s.Turn = 1 }

func wonBy0(s *snooker.State) { s.Winner = 0 }

// at changes the colour that is on, scored the scores and the break.
func at(colour int) func(s *snooker.State) { return func(s *snooker.State) { s.Colour = colour } }

func scored(a, b, points int) func(s *snooker.State) {
	return func(s *snooker.State) { s.Scores, s.Break = [2]int{a, b}, points }
}

func TestOn(t *testing.T) {
	for _, row := range []struct {
		g  snooker.Game
		s  snooker.State
		on []string
	}{
		{reds(1), state("red"), []string{"red"}},
		{reds(1), state("red", isFouled), []string{"red"}},
		{reds(1), state("red", isFree), colours(1, 7)},
		{reds(1), state("colour"), colours(2, 7)},
		{reds(1), state("final"), []string{"yellow"}},
		{reds(1), state("final", at(5)), []string{"blue"}},
		{reds(1), state("final", isFree), colours(2, 7)},
		{reds(1), state("final", isFree, at(4)), colours(4, 7)},
		{reds(1), state("final", isFree, at(7)), []string{"black"}},
		{billiards(5), state("play"), []string{"yellow", "red"}},
		{billiards(5), state("play", ofPlayer1), []string{"white", "red"}},
		{carom(5, 5), state("play"), []string{"yellow", "red"}},
		{carom(5, 5), state("play", ofPlayer1, func(s *snooker.State) { s.Turns[0] = 1 }), []string{"white", "red"}},
	} {
		what := fmt.Sprintf("On in %+v", row.s)
		want(t, what, all(snooker.On(row.g, row.s)), all(row.on, api.OK))
		row.s.Winner, row.s.Free, row.s.Fouled = 1, false, false
		wantError(t, what+" with a winner", all(snooker.On(row.g, row.s)), api.ErrOver)
		row.s.Winner = 3
		wantError(t, what+" with no winner", all(snooker.On(row.g, row.s)), api.ErrRange)
	}
}

// A ruleRow is an entry in a state, with the rule that refuses it, and if there is none what the entry is worth.
type ruleRow struct {
	name string
	s    snooker.State
	e    snooker.Entry
	rule int
	v    snooker.Verdict
}

// testRules checks what is said of entries of a game.
func testRules(t *testing.T, g snooker.Game, rows []ruleRow) {
	t.Helper()
	for _, row := range rows {
		want(t, "Legal: "+row.name, all(snooker.Legal(g, row.s, row.e)), all(row.rule, api.OK))
		got, next := all(snooker.Judge(g, row.s, row.e)), all(snooker.Next(g, row.s, row.e))
		switch {
		case row.e.Kind != "shot":
			wantError(t, "Judge: "+row.name, got, api.ErrKind)
		case row.rule != 0:
			wantError(t, "Judge: "+row.name, got, api.ErrRule)
		default:
			want(t, "Judge: "+row.name, got, all(row.v, api.OK))
		}
		if row.rule != 0 {
			wantError(t, "Next: "+row.name, next, api.ErrRule)
		} else if next[1] != api.OK {
			t.Errorf("Next: %s: the error %d", row.name, next[1])
		}
	}
}

// Verdicts: points without a foul, and a foul with its penalty.
func points(n int) snooker.Verdict { return snooker.Verdict{Points: n, Stays: n > 0} }

func foul(number, penalty int) snooker.Verdict {
	return snooker.Verdict{Foul: number, Penalty: penalty}
}

func TestActs(t *testing.T) {
	full := func(s *snooker.State) { s.Scores = [2]int{99999, 99999} }
	testRules(t, reds(2), []ruleRow{
		{"again", state("red"), act("again"), 2, points(0)},
		{"free", state("red"), act("free"), 2, points(0)},
		{"free when it is free", state("red", isFree), act("free"), 2, points(0)},
		{"again when it is free", state("red", isFree), act("again"), 2, points(0)},
		{"concede", state("colour"), act("concede"), 0, points(0)},
		{"again after a foul", state("red", isFouled), act("again"), 0, points(0)},
		{"free after a foul", state("final", isFouled), act("free"), 0, points(0)},
		{"concede with full scores", state("red", isFree, full), act("concede"), 0, points(0)},
		{"concede after the end", state("red", wonBy0), act("concede"), 1, points(0)},
		{"again after the end", state("red", wonBy0), act("again"), 1, points(0)},
		{"free after the end", state("final", wonBy0), act("free"), 1, points(0)},
		{"a shot after the end", state("red", wonBy0), shot("black", "black", "black"), 1, points(0)},
	})
	for _, g := range []snooker.Game{billiards(5), carom(5, 5)} {
		testRules(t, g, []ruleRow{
			{"again", state("play"), act("again"), 2, points(0)},
			{"free", state("play"), act("free"), 2, points(0)},
			{"concede", state("play"), act("concede"), 0, points(0)},
			{"concede after the end", state("play", wonBy0), act("concede"), 1, points(0)},
			{"a shot after the end", state("play", wonBy0), shot("", "white", ""), 1, points(0)},
		})
	}
}

func TestRulesOfSnooker(t *testing.T) {
	two := func(s *snooker.State) { s.Reds = 2 }
	testRules(t, reds(3), []ruleRow{
		// The rule 3.
		{"a colour called at the reds", state("red"), shot("black", "red", ""), 3, points(0)},
		{"a colour called after a foul", state("red", isFouled), shot("black", "black", ""), 3, points(0)},
		{"a free ball", state("red", isFree), shot("black", "black", ""), 0, points(0)},
		{"nothing called when it is free", state("red", isFree), shot("", "red", ""), 0, points(0)},
		{"nothing called at a colour", state("colour"), shot("", "black", "black"), 3, points(0)},
		{"yellow called at a colour", state("colour"), shot("yellow", "yellow", ""), 0, points(0)},
		{"a colour called at the last ones", state("final"), shot("yellow", "yellow", ""), 3, points(0)},
		{"a colour above called at the last ones", state("final"), shot("green", "green", ""), 3, points(0)},
		{"a free ball at the last colours", state("final", isFree), shot("green", "green", ""), 0, points(0)},
		{"the ball on as a free ball", state("final", isFree, at(4)), shot("brown", "brown", ""), 3, points(0)},
		{"a ball that is gone as a free ball", state("final", isFree, at(4)), shot("green", "green", ""), 3, points(0)},
		{"black as a free ball", state("final", isFree, at(6)), shot("black", "black", ""), 0, points(0)},
		{"no free ball at black", state("final", isFree, at(7)), shot("black", "black", ""), 3, points(0)},
		// The rule 4.
		{"a red that is there", state("colour", two), shot("pink", "pink red", ""), 0, points(0)},
		{"a red that is not there is hit", state("colour"), shot("pink", "pink red", ""), 4, points(0)},
		{"a red that is not there is pocketed", state("colour"), shot("pink", "pink", "red"), 4, points(0)},
		{"a red is hit at the last colours", state("final"), shot("", "red", ""), 4, points(0)},
		{"a red is pocketed at the last colours", state("final"), shot("", "yellow", "red"), 4, points(0)},
		{"two reds", state("red", two), shot("", "red red red", "red red"), 0, points(2)},
		{"three reds of two", state("red", two), shot("", "red", "red red red"), 4, points(0)},
		{"black twice", state("red"), shot("", "red", "black red black"), 4, points(0)},
		{"white twice", state("red"), shot("", "red", "white white"), 4, points(0)},
		{"a colour that is gone is hit", state("final", at(4)), shot("", "brown green", ""), 4, points(0)},
		{"a colour that is gone is pocketed", state("final", at(4)), shot("", "brown", "yellow"), 4, points(0)},
		{"a colour that is there", state("final", at(4)), shot("", "brown blue", "brown"), 0, points(4)},
		{"both the rules 3 and 4", state("final", at(4)), shot("green", "green", ""), 3, points(0)},
		// The rule 5.
		{"the last point", state("red", scored(99998, 0, 9)), shot("", "red", "red"), 0, points(1)},
		{"a point too many", state("red", scored(99999, 0, 9)), shot("", "red", "red"), 5, points(0)},
		{"no point", state("red", scored(99999, 99999, 9)), shot("", "red", ""), 0, points(0)},
		{"the last penalty", state("red", ofPlayer1, scored(99995, 0, 0)), shot("", "", ""), 0, foul(1, 4)},
		{"a penalty too many", state("red", ofPlayer1, scored(99996, 0, 0)), shot("", "", ""), 5, points(0)},
		{"both the rules 4 and 5", state("red", scored(99999, 0, 9)), shot("", "red", "red red"), 4, points(0)},
	})
}

func TestFoulsOfSnooker(t *testing.T) {
	two := func(s *snooker.State) { s.Reds = 2 }
	testRules(t, reds(3), []ruleRow{
		{"no ball is hit", state("red"), shot("", "", ""), 0, foul(1, 4)},
		{"no ball is hit at black", state("colour"), shot("black", "", ""), 0, foul(1, 7)},
		{"no ball is hit at yellow", state("colour"), shot("yellow", "", ""), 0, foul(1, 4)},
		{"no ball is hit at the last blue", state("final", at(5)), shot("", "", ""), 0, foul(1, 5)},
		{"no ball is hit, and others are pocketed", state("red"), shot("", "", "white red pink"), 0, foul(1, 6)},
		{"a colour first", state("red"), shot("", "pink red", "red"), 0, foul(2, 6)},
		{"yellow first", state("red"), shot("", "yellow", ""), 0, foul(2, 4)},
		{"another colour than that called", state("colour"), shot("green", "blue green", "green"), 0, foul(2, 5)},
		{"a lower colour than that called", state("colour"), shot("black", "blue", "white"), 0, foul(2, 7)},
		{"a red at a colour", state("colour", two), shot("green", "red", "red"), 0, foul(2, 4)},
		{"another one of the last colours", state("final"), shot("", "black", ""), 0, foul(2, 7)},
		{"green instead of yellow", state("final"), shot("", "green", ""), 0, foul(2, 4)},
		{"the ball on instead of the free ball", state("red", isFree), shot("black", "red", "red"), 0, foul(2, 4)},
		{"the last ball on instead of the free ball", state("final", isFree, at(5)), shot("pink", "blue", ""), 0, foul(2, 5)},
		{"another ball instead of the free ball", state("red", isFree), shot("pink", "blue", ""), 0, foul(2, 5)},
		{"another ball when it is free", state("red", isFree), shot("", "blue", ""), 0, foul(2, 5)},
		{"white is pocketed", state("red"), shot("", "red", "white red"), 0, foul(3, 4)},
		{"white and black are pocketed", state("red"), shot("", "red", "black white"), 0, foul(3, 7)},
		{"white with the last pink", state("final", at(6)), shot("", "pink", "pink white"), 0, foul(3, 6)},
		{"white with the free ball", state("red", isFree), shot("black", "black", "black white"), 0, foul(3, 4)},
		{"a red and black", state("red"), shot("", "red black", "black red"), 0, foul(4, 7)},
		{"a red at a colour that is pocketed", state("colour", two), shot("green", "green", "green red"), 0, foul(4, 4)},
		{"another colour than the last blue", state("final", at(5)), shot("", "blue", "pink blue"), 0, foul(4, 6)},
		{"a lower colour than that called is pocketed", state("colour"), shot("pink", "pink", "blue"), 0, foul(4, 6)},
		{"several", state("colour"), shot("brown", "brown", "brown blue black pink"), 0, foul(4, 7)},
		{"another colour than the free ball", state("red", isFree), shot("pink", "pink", "pink blue red"), 0, foul(4, 5)},
	})
}

func TestPointsOfSnooker(t *testing.T) {
	fifteen := func(s *snooker.State) { s.Reds = 15 }
	testRules(t, reds(15), []ruleRow{
		{"nothing pocketed", state("red"), shot("", "red black", ""), 0, points(0)},
		{"all reds", state("red", fifteen), shot("", "red", "red red red red red red red red red red red red red red red"), 0, points(15)},
		{"a free ball", state("red", isFree), shot("black", "black", "black"), 0, points(1)},
		{"a free ball and reds", state("red", isFree, fifteen), shot("black", "black red", "red black red"), 0, points(3)},
		{"a red by a free ball", state("red", isFree), shot("black", "black red", "red"), 0, points(1)},
		{"a red when it is free", state("red", isFree), shot("", "red", "red"), 0, points(1)},
		{"a colour", state("colour"), shot("pink", "pink", "pink"), 0, points(6)},
		{"no colour", state("colour"), shot("pink", "pink", ""), 0, points(0)},
		{"the last yellow", state("final"), shot("", "yellow", "yellow"), 0, points(2)},
		{"the last black", state("final", at(7)), shot("", "black", "black"), 0, points(7)},
		{"a last free ball", state("final", isFree, at(3)), shot("black", "black", "black"), 0, points(3)},
		{"the last ball on by a free ball", state("final", isFree, at(3)), shot("black", "black green", "green"), 0, points(3)},
		{"both", state("final", isFree, at(3)), shot("black", "black green", "green black"), 0, points(3)},
	})
}

func TestBilliards(t *testing.T) {
	streak := func(n int) func(s *snooker.State) { return func(s *snooker.State) { s.Streak = n } }
	testRules(t, billiards(1000), []ruleRow{
		{"the own ball is hit", state("play"), shot("", "red white", ""), 4, points(0)},
		{"the own ball of the player 1", state("play", ofPlayer1), shot("", "red yellow", ""), 4, points(0)},
		{"a ball twice", state("play"), shot("", "red", "red red"), 4, points(0)},
		{"the own ball twice", state("play"), shot("", "red", "white yellow white"), 4, points(0)},
		{"hit again", state("play"), shot("", "red red", ""), 0, points(0)},
		{"no ball is hit", state("play"), shot("", "", "white"), 0, foul(1, 2)},
		{"nothing", state("play"), shot("", "yellow", ""), 0, points(0)},
		{"a cannon", state("play"), shot("", "yellow red", ""), 0, points(2)},
		{"a cannon of the player 1", state("play", ofPlayer1), shot("", "red white", ""), 0, points(2)},
		{"red", state("play"), shot("", "red", "red"), 0, points(3)},
		{"the other ball", state("play"), shot("", "red", "yellow"), 0, points(2)},
		{"the other ball of the player 1", state("play", ofPlayer1), shot("", "red", "white"), 0, points(2)},
		{"the own ball off red", state("play"), shot("", "red", "white"), 0, points(3)},
		{"the own ball off the other one", state("play"), shot("", "yellow", "white"), 0, points(2)},
		{"the own ball of the player 1 off red", state("play", ofPlayer1), shot("", "red", "yellow"), 0, points(3)},
		{"the example", state("play"), shot("", "red yellow", "red white"), 0, points(8)},
		{"all by red", state("play"), shot("", "red yellow", "white red yellow"), 0, points(10)},
		{"all by the other ball", state("play"), shot("", "yellow red", "white red yellow"), 0, points(9)},
		{"the last one without a cannon", state("play", streak(4)), shot("", "red", "red"), 0, points(3)},
		{"one too many", state("play", streak(5)), shot("", "red", "red"), 0, foul(5, 2)},
		{"the own ball too many", state("play", streak(5)), shot("", "yellow", "white"), 0, foul(5, 2)},
		{"no ball is hit by then", state("play", streak(5)), shot("", "", "red"), 0, foul(1, 2)},
		{"a cannon by then", state("play", streak(5)), shot("", "red yellow", "red"), 0, points(5)},
		{"nothing by then", state("play", streak(5)), shot("", "red", ""), 0, points(0)},
	})
}

func TestCarom(t *testing.T) {
	turn1 := func(s *snooker.State) { s.Turn, s.Turns[0] = 1, 1 }
	testRules(t, carom(1000, 5), []ruleRow{
		{"the own ball is hit", state("play"), cannon("red white", 3), 4, points(0)},
		{"the own ball of the player 1", state("play", turn1), cannon("yellow red white", 3), 4, points(0)},
		{"a cannon", state("play"), cannon("red yellow", 3), 0, points(1)},
		{"a cannon of the player 1", state("play", turn1), cannon("white red red", 99), 0, points(1)},
		{"two cushions", state("play"), cannon("yellow red", 2), 0, points(0)},
		{"one ball", state("play"), cannon("red red", 3), 0, points(0)},
		{"the other ball", state("play"), cannon("yellow", 3), 0, points(0)},
		{"no ball", state("play"), cannon("", 3), 0, points(0)},
		{"a point too many", state("play", turn1, scored(0, 99999, 0)), cannon("red white", 3), 5, points(0)},
		{"no point too many", state("play", turn1, scored(99999, 99999, 0)), cannon("red white", 2), 0, points(0)},
	})
}

func TestErrorsOfRules(t *testing.T) {
	g, s, over := reds(1), state("red"), state("red", wonBy0)
	wrong := shot("", "", names(23, "red"))
	wantError(t, "Legal of a wrong game", all(snooker.Legal(reds(0), s, wrong)), api.ErrRange)
	wantError(t, "Legal in a wrong state", all(snooker.Legal(g, state("colour", isFree), wrong)), api.ErrState)
	wantError(t, "Legal of a wrong entry", all(snooker.Legal(g, over, wrong)), api.ErrMany)
	wantError(t, "Judge of a wrong game", all(snooker.Judge(reds(0), s, act("x"))), api.ErrRange)
	wantError(t, "Judge in a wrong state", all(snooker.Judge(g, state("play"), act("free"))), api.ErrKind)
	wantError(t, "Judge of a wrong entry", all(snooker.Judge(g, s, shot("red", "", ""))), api.ErrUnknown)
	wantError(t, "Judge of what is no shot", all(snooker.Judge(g, over, act("concede"))), api.ErrKind)
	wantError(t, "Judge of what is refused", all(snooker.Judge(g, over, shot("", "red", ""))), api.ErrRule)
	wantError(t, "Next of a wrong game", all(snooker.Next(snooker.Game{}, s, wrong)), api.ErrKind)
	wantError(t, "Next in a wrong state", all(snooker.Next(g, state("red", wonBy0, isFree), wrong)), api.ErrState)
	wantError(t, "Next of a wrong entry", all(snooker.Next(g, over, wrong)), api.ErrMany)
	wantError(t, "Next of what is refused", all(snooker.Next(g, over, act("concede"))), api.ErrRule)
	wantError(t, "On of a wrong game", all(snooker.On(reds(16), over)), api.ErrRange)
	wantError(t, "On in a wrong state", all(snooker.On(g, state("red", wonBy0, isFree))), api.ErrState)
}
