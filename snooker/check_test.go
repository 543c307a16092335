package snooker_test

import (
	"fmt"
	"strings"
	"testing"

	"baulk/api"
	"baulk/errno"
	"baulk/snooker"
)

// Tests of P6.1 (forms).

func TestCheckGame(t *testing.T) {
	for _, row := range []struct {
		kind                string
		reds, target, turns int
		e                   api.Errno
	}{
		{"snooker", 1, 0, 0, api.OK}, {"snooker", 15, 0, 0, api.OK}, {"snooker", 0, 0, 0, api.ErrRange}, {"snooker", 16, 0, 0, api.ErrRange}, {"snooker", -1, 0, 0, api.ErrRange},
		{"snooker", 1, 1, 0, api.ErrRange}, {"snooker", 1, -1, 0, api.ErrRange}, {"snooker", 1, 0, 1, api.ErrRange}, {"snooker", 1, 0, -1, api.ErrRange},
		{"billiards", 0, 1, 0, api.OK}, {"billiards", 0, 1000, 0, api.OK}, {"billiards", 0, 0, 0, api.ErrRange}, {"billiards", 0, 1001, 0, api.ErrRange},
		{"billiards", 1, 1, 0, api.ErrRange}, {"billiards", -1, 1, 0, api.ErrRange}, {"billiards", 0, 1, 1, api.ErrRange}, {"billiards", 0, 1, -1, api.ErrRange},
		{"carom", 0, 1, 1, api.OK}, {"carom", 0, 1000, 100, api.OK}, {"carom", 0, 0, 1, api.ErrRange}, {"carom", 0, 1001, 1, api.ErrRange},
		{"carom", 0, 1, 0, api.ErrRange}, {"carom", 0, 1, 101, api.ErrRange}, {"carom", 1, 1, 1, api.ErrRange},
		{"", 1, 0, 0, api.ErrKind}, {"Snooker", 1, 0, 0, api.ErrKind}, {"pool", -1, -1, -1, api.ErrKind}, {"snooker ", 1, 0, 0, api.ErrKind},
	} {
		g := snooker.Game{Kind: row.kind, Reds: row.reds, Target: row.target, Turns: row.turns}
		want(t, fmt.Sprintf("CheckGame of %+v", g), all(snooker.CheckGame(g)), all(row.e))
	}
}

func TestStart(t *testing.T) {
	want(t, "snooker", all(snooker.Start(reds(15))), all(snooker.State{Phase: "red", Reds: 15, Winner: -1}, api.OK))
	want(t, "billiards", all(snooker.Start(billiards(7))), all(snooker.State{Phase: "play", Winner: -1}, api.OK))
	want(t, "carom", all(snooker.Start(carom(7, 7))), all(snooker.State{Phase: "play", Winner: -1}, api.OK))
	wantError(t, "Start of no game", all(snooker.Start(snooker.Game{})), api.ErrKind)
	wantError(t, "Start of a game without reds", all(snooker.Start(reds(0))), api.ErrRange)
	for _, g := range games() {
		s, _ := snooker.Start(g)
		want(t, "CheckState at the beginning", all(snooker.CheckState(g, s)), all(api.OK))
	}
}

func TestValue(t *testing.T) {
	for v, ball := range colours(0, 7) {
		if v > 0 {
			want(t, "Value of "+ball, all(snooker.Value(ball)), all(v, api.OK))
		}
	}
	for _, ball := range []string{"white", "", "Red", "orange", "red "} {
		wantError(t, "Value of "+ball, all(snooker.Value(ball)), api.ErrUnknown)
	}
}

// A stateRow is a change of a state, with the error of what becomes of it.
type stateRow struct {
	name   string
	change func(s *snooker.State)
	e      api.Errno
}

// testStates checks changes of a state that has no error.
func testStates(t *testing.T, g snooker.Game, base snooker.State, rows []stateRow) {
	t.Helper()
	want(t, fmt.Sprintf("CheckState of %+v", base), all(snooker.CheckState(g, base)), all(api.OK))
	for _, row := range rows {
		s := base
		row.change(&s)
		want(t, "CheckState with "+row.name, all(snooker.CheckState(g, s)), all(row.e))
	}
}

// ranges returns changes of numbers of a state to the ends of their ranges, and beyond them.
func ranges(g snooker.Game) []stateRow {
	var rows []stateRow
	for _, field := range []struct {
		name      string
		low, high int
		number    func(s *snooker.State) *int
	}{
		{"turn", 0, 1, func(s *snooker.State) *int { return &s.Turn }},
		{"score of 0", 0, snooker.MaxScore, func(s *snooker.State) *int { return &s.Scores[0] }},
		{"score of 1", 0, snooker.MaxScore, func(s *snooker.State) *int { return &s.Scores[1] }},
		{"break", 0, snooker.MaxScore, func(s *snooker.State) *int { return &s.Break }},
		{"reds", 0, g.Reds, func(s *snooker.State) *int { return &s.Reds }},
		{"colour", 0, 7, func(s *snooker.State) *int { return &s.Colour }},
		{"streak", 0, snooker.Streak, func(s *snooker.State) *int { return &s.Streak }},
		{"turns of 0", 0, g.Turns, func(s *snooker.State) *int { return &s.Turns[0] }},
		{"turns of 1", 0, g.Turns, func(s *snooker.State) *int { return &s.Turns[1] }},
		{"winner", -1, 2, func(s *snooker.State) *int { return &s.Winner }},
	} {
		for _, n := range []int{field.low - 1, field.high + 1} {
			rows = append(rows, stateRow{fmt.Sprintf("%s %d", field.name, n), func(s *snooker.State) { *field.number(s) = n }, api.ErrRange})
			// A number out of its range is found before a phase that is none, and before what does not fit together.
			rows = append(rows, stateRow{fmt.Sprintf("%s %d and no phase", field.name, n), func(s *snooker.State) { *field.number(s), s.Phase = n, "x" }, api.ErrRange})
		}
	}
	return rows
}

func TestRangesOfStates(t *testing.T) {
	for _, g := range games() {
		s, _ := snooker.Start(g)
		testStates(t, g, s, ranges(g))
		for _, phase := range []string{"red", "colour", "final", "play", "", "Red"} {
			isOwn := (phase == "play") == (g.Kind != "snooker") && phase != "" && phase != "Red"
			s := snooker.State{Phase: phase, Winner: -1, Break: 1}
			e := api.ErrKind
			if isOwn {
				e = api.ErrState
			}
			want(t, fmt.Sprintf("the phase %s in %+v", phase, g), all(snooker.CheckState(g, s)), all(e))
		}
	}
}

func TestStatesOfSnooker(t *testing.T) {
	testStates(t, reds(3), state("red"), []stateRow{
		{"scores", func(s *snooker.State) { s.Scores = [2]int{99999, 99999} }, api.OK},
		{"a break", func(s *snooker.State) { s.Turn, s.Scores, s.Break = 1, [2]int{0, 8}, 8 }, api.OK},
		{"a break above the score", func(s *snooker.State) { s.Turn, s.Scores, s.Break = 1, [2]int{9, 8}, 9 }, api.ErrState},
		{"a break of the other one", func(s *snooker.State) { s.Scores, s.Break = [2]int{0, 8}, 8 }, api.ErrState},
		{"a break above the score of a winner", func(s *snooker.State) { s.Break, s.Winner = 1, 0 }, api.ErrState},
		{"a colour", func(s *snooker.State) { s.Colour = 2 }, api.ErrState},
		{"no reds", func(s *snooker.State) { s.Reds = 0 }, api.ErrState},
		{"a winner, but no reds", func(s *snooker.State) { s.Reds, s.Winner = 0, 0 }, api.ErrState},
		{"all reds", func(s *snooker.State) { s.Reds = 3 }, api.OK},
		{"a free ball", func(s *snooker.State) { s.Free = true }, api.OK},
		{"a foul", func(s *snooker.State) { s.Fouled = true }, api.OK},
		{"both", func(s *snooker.State) { s.Free, s.Fouled = true, true }, api.ErrState},
		{"a winner", func(s *snooker.State) { s.Winner = 1 }, api.OK},
		{"a winner and a free ball", func(s *snooker.State) { s.Winner, s.Free = 1, true }, api.ErrState},
		{"a winner and a foul", func(s *snooker.State) { s.Winner, s.Fouled = 0, true }, api.ErrState},
		{"a draw", func(s *snooker.State) { s.Winner = 2 }, api.ErrState},
		{"a streak", func(s *snooker.State) { s.Streak = 1 }, api.ErrState},
	})
	testStates(t, reds(3), state("colour"), []stateRow{
		{"reds", func(s *snooker.State) { s.Reds = 3 }, api.OK},
		{"a colour", func(s *snooker.State) { s.Colour = 2 }, api.ErrState},
		{"a free ball", func(s *snooker.State) { s.Free = true }, api.ErrState},
		{"a foul", func(s *snooker.State) { s.Fouled = true }, api.ErrState},
		{"a winner", func(s *snooker.State) { s.Winner = 0 }, api.OK},
		{"a winner and a free ball", func(s *snooker.State) { s.Winner, s.Free = 0, true }, api.ErrState},
		{"a draw", func(s *snooker.State) { s.Winner = 2 }, api.ErrState},
	})
	testStates(t, reds(3), state("final"), []stateRow{
		{"black", func(s *snooker.State) { s.Colour = 7 }, api.OK},
		{"the colour 1", func(s *snooker.State) { s.Colour = 1 }, api.ErrState},
		{"no colour", func(s *snooker.State) { s.Colour = 0 }, api.ErrState},
		{"a red", func(s *snooker.State) { s.Reds = 1 }, api.ErrState},
		{"a free ball", func(s *snooker.State) { s.Free = true }, api.OK},
		{"a foul", func(s *snooker.State) { s.Fouled = true }, api.OK},
		{"both", func(s *snooker.State) { s.Free, s.Fouled = true, true }, api.ErrState},
		{"a winner with equal scores", func(s *snooker.State) { s.Winner = 0 }, api.OK},
		{"a winner and a foul", func(s *snooker.State) { s.Winner, s.Fouled = 0, true }, api.ErrState},
		{"a draw", func(s *snooker.State) { s.Colour, s.Winner = 7, 2 }, api.ErrState},
	})
}

func TestStatesOfBilliards(t *testing.T) {
	testStates(t, billiards(10), state("play"), []stateRow{
		{"a streak", func(s *snooker.State) { s.Streak = 5 }, api.OK},
		{"scores", func(s *snooker.State) { s.Scores = [2]int{9, 9} }, api.OK},
		{"the target of the player 0", func(s *snooker.State) { s.Scores[0] = 10 }, api.ErrState},
		{"the target of the player 1", func(s *snooker.State) { s.Scores[1] = 11 }, api.ErrState},
		{"a winner", func(s *snooker.State) { s.Scores[1], s.Winner = 10, 1 }, api.OK},
		{"a winner without points", func(s *snooker.State) { s.Winner = 0 }, api.OK},
		{"a winner who is behind", func(s *snooker.State) { s.Scores[0], s.Winner = 10, 1 }, api.OK},
		{"a draw", func(s *snooker.State) { s.Winner = 2 }, api.ErrState},
		{"a break", func(s *snooker.State) { s.Scores[0], s.Break = 5, 5 }, api.OK},
		{"a break above the score", func(s *snooker.State) { s.Scores[0], s.Break = 5, 6 }, api.ErrState},
		{"a colour", func(s *snooker.State) { s.Colour = 2 }, api.ErrState},
		{"a free ball", func(s *snooker.State) { s.Free = true }, api.ErrState},
		{"a foul", func(s *snooker.State) { s.Fouled = true }, api.ErrState},
	})
}

func TestStatesOfCarom(t *testing.T) {
	testStates(t, carom(10, 4), state("play"), []stateRow{
		{"a streak", func(s *snooker.State) { s.Streak = 1 }, api.ErrState},
		{"a colour", func(s *snooker.State) { s.Colour = 2 }, api.ErrState},
		{"a free ball", func(s *snooker.State) { s.Free = true }, api.ErrState},
		{"a foul", func(s *snooker.State) { s.Fouled = true }, api.ErrState},
		{"a break above the score", func(s *snooker.State) { s.Break = 1 }, api.ErrState},
		{"the last turn", func(s *snooker.State) { s.Turns = [2]int{3, 3} }, api.OK},
		{"no turn left", func(s *snooker.State) { s.Turns = [2]int{4, 4} }, api.ErrState},
		{"a turn ahead", func(s *snooker.State) { s.Turns = [2]int{2, 1} }, api.ErrState},
		{"a turn behind", func(s *snooker.State) { s.Turns = [2]int{1, 2} }, api.ErrState},
		{"the target of the player 0", func(s *snooker.State) { s.Scores[0] = 10 }, api.ErrState},
		{"the target of the player 1", func(s *snooker.State) { s.Scores[1] = 10 }, api.ErrState},
		{"scores below the target", func(s *snooker.State) { s.Scores = [2]int{9, 9} }, api.OK},
		{"a winner", func(s *snooker.State) { s.Turns, s.Winner = [2]int{4, 4}, 0 }, api.OK},
		{"a draw", func(s *snooker.State) { s.Turns, s.Winner = [2]int{4, 4}, 2 }, api.OK},
		{"a winner with the target", func(s *snooker.State) { s.Scores[1], s.Winner = 12, 1 }, api.OK},
		{"a winner who is a turn ahead", func(s *snooker.State) { s.Turns, s.Winner = [2]int{1, 0}, 0 }, api.ErrState},
		{"a winner who is a turn behind", func(s *snooker.State) { s.Turns, s.Winner = [2]int{0, 1}, 0 }, api.ErrState},
	})
	testStates(t, carom(10, 4), state("play", func(s *snooker.State) { s.Turn, s.Turns = 1, [2]int{1, 0} }), []stateRow{
		{"the last turn", func(s *snooker.State) { s.Turns = [2]int{4, 3} }, api.OK},
		{"as many turns", func(s *snooker.State) { s.Turns = [2]int{1, 1} }, api.ErrState},
		{"two turns ahead", func(s *snooker.State) { s.Turns = [2]int{2, 0} }, api.ErrState},
		{"a turn behind", func(s *snooker.State) { s.Turns = [2]int{0, 1} }, api.ErrState},
		{"the target of the player 0", func(s *snooker.State) { s.Scores[0] = 10 }, api.OK},
		{"a winner who is a turn ahead", func(s *snooker.State) { s.Winner = 1 }, api.OK},
		{"a winner, and as many turns", func(s *snooker.State) { s.Turns, s.Winner = [2]int{1, 1}, 1 }, api.OK},
		{"a winner, and two turns more", func(s *snooker.State) { s.Turns, s.Winner = [2]int{2, 0}, 1 }, api.ErrState},
		{"a winner, and a turn less", func(s *snooker.State) { s.Turns, s.Winner = [2]int{0, 1}, 0 }, api.ErrState},
	})
}

func TestCheckStateOfNoGame(t *testing.T) {
	want(t, "no kind", all(snooker.CheckState(snooker.Game{}, snooker.State{Turn: 2})), all(api.ErrKind))
	want(t, "no reds", all(snooker.CheckState(reds(0), snooker.State{Phase: "x"})), all(api.ErrRange))
}

// names returns a list of n names.
func names(n int, name string) string { return strings.Repeat(name+" ", n) }

func TestCheckEntry(t *testing.T) {
	cushions := func(n int, e snooker.Entry) snooker.Entry {
		e.Cushions = n
		return e
	}
	kind := func(name string, e snooker.Entry) snooker.Entry {
		e.Kind = name
		return e
	}
	for _, row := range []struct {
		name string
		e    snooker.Entry
		in   [3]api.Errno // snooker, billiards, carom
	}{
		{"nothing", shot("", "", ""), [3]api.Errno{}},
		{"again", act("again"), [3]api.Errno{}},
		{"free", act("free"), [3]api.Errno{}},
		{"concede", act("concede"), [3]api.Errno{}},
		{"no kind", act(""), [3]api.Errno{api.ErrKind, api.ErrKind, api.ErrKind}},
		{"another kind", kind("Shot", shot("x", "x", "x")), [3]api.Errno{api.ErrKind, api.ErrKind, api.ErrKind}},
		{"again with a call", kind("again", shot("black", "", "")), [3]api.Errno{api.ErrForm, api.ErrForm, api.ErrForm}},
		{"free with a hit", kind("free", shot("", "x", "")), [3]api.Errno{api.ErrForm, api.ErrForm, api.ErrForm}},
		{"concede with a pot", kind("concede", shot("", "", "red")), [3]api.Errno{api.ErrForm, api.ErrForm, api.ErrForm}},
		{"concede with pots", kind("concede", shot("", "", names(23, "red"))), [3]api.Errno{api.ErrForm, api.ErrForm, api.ErrForm}},
		{"again with cushions", cushions(-1, act("again")), [3]api.Errno{api.ErrForm, api.ErrForm, api.ErrForm}},
		{"22 hits", shot("", names(22, "red"), ""), [3]api.Errno{}},
		{"23 hits", shot("x", names(23, "x"), ""), [3]api.Errno{api.ErrMany, api.ErrMany, api.ErrMany}},
		{"22 pots", shot("", "", names(22, "red")), [3]api.Errno{api.OK, api.OK, api.ErrForm}},
		{"23 pots", cushions(100, shot("x", "x", names(23, "red"))), [3]api.Errno{api.ErrMany, api.ErrMany, api.ErrMany}},
		{"black called", shot("black", "", ""), [3]api.Errno{api.OK, api.ErrForm, api.ErrForm}},
		{"yellow called", shot("yellow", "", ""), [3]api.Errno{api.OK, api.ErrForm, api.ErrForm}},
		{"red called", shot("red", "", ""), [3]api.Errno{api.ErrUnknown, api.ErrUnknown, api.ErrUnknown}},
		{"white called", shot("white", "", ""), [3]api.Errno{api.ErrUnknown, api.ErrUnknown, api.ErrUnknown}},
		{"orange called", cushions(100, shot("orange", "", "")), [3]api.Errno{api.ErrUnknown, api.ErrUnknown, api.ErrUnknown}},
		{"all hit", shot("", "red yellow green brown blue pink black", ""), [3]api.Errno{api.OK, api.ErrUnknown, api.ErrUnknown}},
		{"three hit", shot("", "red yellow", ""), [3]api.Errno{}},
		{"white hit", shot("", "red white", ""), [3]api.Errno{api.ErrUnknown, api.OK, api.OK}},
		{"green hit", shot("", "red green", ""), [3]api.Errno{api.OK, api.ErrUnknown, api.ErrUnknown}},
		{"nothing hit, with a name", cushions(-1, snooker.Entry{Kind: "shot", Hits: []string{""}}), [3]api.Errno{api.ErrUnknown, api.ErrUnknown, api.ErrUnknown}},
		{"all pocketed", shot("", "", "white red yellow green brown blue pink black"), [3]api.Errno{api.OK, api.ErrUnknown, api.ErrUnknown}},
		{"three pocketed", shot("", "", "white red yellow"), [3]api.Errno{api.OK, api.OK, api.ErrForm}},
		{"green pocketed", shot("", "", "red green"), [3]api.Errno{api.OK, api.ErrUnknown, api.ErrUnknown}},
		{"nothing pocketed, with a name", snooker.Entry{Kind: "shot", Pots: []string{"red", ""}}, [3]api.Errno{api.ErrUnknown, api.ErrUnknown, api.ErrUnknown}},
		{"a pot that is none, and too many cushions", cushions(100, shot("", "", "orange")), [3]api.Errno{api.ErrUnknown, api.ErrUnknown, api.ErrUnknown}},
		{"99 cushions", cushions(99, shot("", "", "")), [3]api.Errno{api.ErrForm, api.ErrForm, api.OK}},
		{"1 cushion", cushions(1, shot("", "", "")), [3]api.Errno{api.ErrForm, api.ErrForm, api.OK}},
		{"100 cushions", cushions(100, shot("black", "", "red")), [3]api.Errno{api.ErrRange, api.ErrRange, api.ErrRange}},
		{"-1 cushions", cushions(-1, shot("", "", "")), [3]api.Errno{api.ErrRange, api.ErrRange, api.ErrRange}},
	} {
		for i, g := range []snooker.Game{reds(1), billiards(5), carom(5, 5)} {
			want(t, row.name+" in "+g.Kind, all(snooker.CheckEntry(g, row.e)), all(row.in[i]))
			want(t, "a log with "+row.name+" in "+g.Kind, all(snooker.CheckLog(g, []snooker.Entry{act("again"), row.e, act("x"), act("free")})), all(errno.First(row.in[i], api.ErrKind)))
		}
		want(t, row.name+" in no game", all(snooker.CheckEntry(reds(0), row.e)), all(api.ErrRange))
	}
}

func TestCheckLog(t *testing.T) {
	l := make([]snooker.Entry, 1001)
	for i := range l {
		l[i] = act("again")
	}
	want(t, "no entries", all(snooker.CheckLog(reds(1), nil)), all(api.OK))
	want(t, "1000 entries", all(snooker.CheckLog(reds(1), l[:1000])), all(api.OK))
	want(t, "1001 entries", all(snooker.CheckLog(reds(1), l)), all(api.ErrMany))
	want(t, "1001 entries of no game", all(snooker.CheckLog(reds(16), l)), all(api.ErrRange))
	l[0], l[1], l[999] = act("x"), shot("red", "", ""), shot("", names(23, "red"), "")
	want(t, "1001 entries with errors", all(snooker.CheckLog(reds(1), l)), all(api.ErrMany))
	want(t, "the first error", all(snooker.CheckLog(reds(1), l[:1000])), all(api.ErrKind))
	want(t, "the second error", all(snooker.CheckLog(reds(1), l[1:])), all(api.ErrUnknown))
	want(t, "the last error", all(snooker.CheckLog(reds(1), l[2:1000])), all(api.ErrMany))
}
