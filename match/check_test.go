package match_test

import (
	"fmt"
	"math"
	"testing"

	"baulk/api"
	"baulk/match"
)

// Tests of P7.1 and P7.3 (the errors of odds, races, matches, states and logs).

func TestCheckOdds(t *testing.T) {
	for _, row := range []struct {
		own, other api.Rat
		e          api.Errno
	}{
		{"0", "0", api.OK}, {"1", "1", api.OK}, {"0", "1", api.OK}, {"1/2", "2/3", api.OK}, {"1/" + nines(600), digits(600, 0) + "/" + nines(600), api.OK},
		{"-1", "1", api.ErrRange}, {"-1/7", "0", api.ErrRange}, {"8/7", "1", api.ErrRange}, {"2", "1", api.ErrRange},
		{"1", "-1", api.ErrRange}, {"1", "-1/7", api.ErrRange}, {"0", "8/7", api.ErrRange}, {"0", "2", api.ErrRange},
		{"", "0", api.ErrForm}, {"0", "", api.ErrForm}, {"2/4", "0", api.ErrForm}, {"0", "1/1", api.ErrForm}, {"0.5", "0", api.ErrForm},
		{"1/" + digits(601, 1), "0", api.ErrLarge}, {"0", digits(601, 1), api.ErrLarge}, {"-" + digits(601, 1), "0", api.ErrLarge},
		{"2", "", api.ErrRange}, {"", "2", api.ErrForm}, {"2", digits(601, 1), api.ErrRange}, {digits(601, 1), "x", api.ErrLarge},
	} {
		o := odds(row.own, row.other)
		want(t, fmt.Sprintf("CheckOdds of %.50v", o), all(match.CheckOdds(o)), all(row.e))
	}
}

func TestCheckRace(t *testing.T) {
	for _, row := range []struct {
		first, second int
		order         string
		breaker       int
		e             api.Errno
	}{
		{1, 1, "alternate", 0, api.OK}, {32, 32, "winner", 1, api.OK}, {1, 32, "loser", 1, api.OK},
		{0, 1, "alternate", 0, api.ErrRange}, {1, 0, "alternate", 0, api.ErrRange}, {33, 1, "alternate", 0, api.ErrRange}, {1, 33, "alternate", 0, api.ErrRange},
		{-1, 1, "", 2, api.ErrRange}, {1, math.MaxInt, "", 2, api.ErrRange}, {math.MinInt, 1, "", 2, api.ErrRange},
		{1, 1, "", 2, api.ErrKind}, {1, 1, "Winner", 0, api.ErrKind}, {1, 1, "break", 0, api.ErrKind}, {1, 1, "alternate ", -1, api.ErrKind},
		{1, 1, "alternate", 2, api.ErrRange}, {1, 1, "winner", -1, api.ErrRange}, {1, 1, "loser", math.MaxInt, api.ErrRange},
	} {
		r := match.Race{Need: [2]int{row.first, row.second}, Order: row.order, Breaker: row.breaker}
		want(t, fmt.Sprintf("CheckRace of %+v", r), all(match.CheckRace(r)), all(row.e))
	}
}

// A matchRow is a change of a match, with the error of what becomes of it.
type matchRow struct {
	name   string
	change func(m *match.Match)
	e      api.Errno
}

// matchRows returns changes of the match of the examples.
func matchRows() []matchRow {
	return []matchRow{
		{"nothing", func(m *match.Match) {}, api.OK},
		{"no first name", func(m *match.Match) { m.Players[0] = "" }, api.ErrName},
		{"no second name", func(m *match.Match) { m.Players[1] = "b b" }, api.ErrName},
		{"a long name", func(m *match.Match) { m.Players[1] = "abcdefghijklmnopqrstuvwxy" }, api.ErrName},
		{"a name of 24 letters", func(m *match.Match) { m.Players[1] = "abcdefghijklmnopqrstuvwx" }, api.OK},
		{"the same name that is none", func(m *match.Match) { m.Players = [2]string{"1", "1"} }, api.ErrName},
		{"the same name", func(m *match.Match) { m.Players[1] = "ann" }, api.ErrTwice},
		{"names that differ in a capital", func(m *match.Match) { m.Players[1] = "Ann" }, api.OK},
		{"the same name and no sets", func(m *match.Match) { m.Players[1], m.Sets = "ann", 0 }, api.ErrTwice},
		{"one set", func(m *match.Match) { m.Sets = 1 }, api.OK},
		{"16 sets", func(m *match.Match) { m.Sets = 16 }, api.OK},
		{"no sets", func(m *match.Match) { m.Sets, m.Order = 0, "" }, api.ErrRange},
		{"17 sets", func(m *match.Match) { m.Sets, m.Order = 17, "" }, api.ErrRange},
		{"one frame", func(m *match.Match) { m.Frames = 1 }, api.OK},
		{"32 frames", func(m *match.Match) { m.Frames = 32 }, api.OK},
		{"no frames", func(m *match.Match) { m.Frames, m.Order = 0, "" }, api.ErrRange},
		{"33 frames", func(m *match.Match) { m.Frames, m.Order = 33, "" }, api.ErrRange},
		{"the least number of frames", func(m *match.Match) { m.Frames = math.MinInt }, api.ErrRange},
		{"the order winner", func(m *match.Match) { m.Order = "winner" }, api.OK},
		{"the order loser", func(m *match.Match) { m.Order = "loser" }, api.OK},
		{"no order", func(m *match.Match) { m.Order = "" }, api.ErrKind},
		{"no order, and a start too many", func(m *match.Match) { m.Order, m.Starts[0] = "first", 2 }, api.ErrKind},
		{"starts", func(m *match.Match) { m.Starts = [2]int{1, 1} }, api.OK},
		{"a first start of all frames", func(m *match.Match) { m.Starts[0] = 2 }, api.ErrRange},
		{"a second start of all frames", func(m *match.Match) { m.Starts[1] = 2 }, api.ErrRange},
		{"a first start below 0", func(m *match.Match) { m.Starts[0] = -1 }, api.ErrRange},
		{"a second start below 0", func(m *match.Match) { m.Starts[1] = -1 }, api.ErrRange},
		{"no clock", func(m *match.Match) { m.Clock = 0 }, api.OK},
		{"a clock of 600", func(m *match.Match) { m.Clock = 600 }, api.OK},
		{"a clock of 601", func(m *match.Match) { m.Clock = 601 }, api.ErrRange},
		{"a clock below 0", func(m *match.Match) { m.Clock = -1 }, api.ErrRange},
		{"no time outs", func(m *match.Match) { m.Outs = 0 }, api.OK},
		{"9 time outs", func(m *match.Match) { m.Outs = 9 }, api.OK},
		{"10 time outs", func(m *match.Match) { m.Outs = 10 }, api.ErrRange},
		{"time outs below 0", func(m *match.Match) { m.Outs = -1 }, api.ErrRange},
	}
}

func TestCheckMatch(t *testing.T) {
	for _, row := range matchRows() {
		m := example()
		row.change(&m)
		want(t, "CheckMatch with "+row.name, all(match.CheckMatch(m)), all(row.e))
		// All functions look at the match first.
		if row.e != api.OK {
			wantError(t, "Start with "+row.name, all(match.Start(m)), row.e)
			want(t, "CheckState with "+row.name, all(match.CheckState(m, match.State{Winner: 7})), all(row.e))
			want(t, "CheckLog with "+row.name, all(match.CheckLog(m, make([]match.Entry, 1001))), all(row.e))
		}
	}
}

// A stateRow is a change of a state, with the error of what becomes of it.
type stateRow struct {
	name   string
	change func(s *match.State)
	e      api.Errno
}

// testStates checks changes of a state that has no error.
func testStates(t *testing.T, m match.Match, base match.State, rows []stateRow) {
	t.Helper()
	want(t, fmt.Sprintf("CheckState of %+v", base), all(match.CheckState(m, base)), all(api.OK))
	for _, row := range rows {
		s := base
		row.change(&s)
		want(t, "CheckState with "+row.name, all(match.CheckState(m, s)), all(row.e))
	}
}

// middle is a match in which both have won a set, and its state.
func middle() (match.Match, match.State) {
	m := match.Match{Players: [2]string{"ann", "ben"}, Sets: 2, Frames: 4, Order: "alternate", Starts: [2]int{0, 1}, Clock: 30, Outs: 2}
	return m, match.State{Sets: [2]int{1, 1}, Frames: [2]int{2, 3}, Past: [][2]int{{4, 1}, {3, 4}}, Breaker: 1, Outs: [2]int{2, 1}, Running: true, Winner: -1}
}

func TestRangesOfStates(t *testing.T) {
	m, base := middle()
	var rows []stateRow
	for _, field := range []struct {
		name      string
		low, high int
		number    func(s *match.State) *int
	}{
		{"winner", -1, 1, func(s *match.State) *int { return &s.Winner }},
		{"breaker", 0, 1, func(s *match.State) *int { return &s.Breaker }},
		{"sets of 0", 0, 2, func(s *match.State) *int { return &s.Sets[0] }},
		{"sets of 1", 0, 2, func(s *match.State) *int { return &s.Sets[1] }},
		{"frames of 0", 0, 3, func(s *match.State) *int { return &s.Frames[0] }},
		{"frames of 1", 1, 3, func(s *match.State) *int { return &s.Frames[1] }},
		{"time outs of 0", 0, 2, func(s *match.State) *int { return &s.Outs[0] }},
		{"time outs of 1", 0, 2, func(s *match.State) *int { return &s.Outs[1] }},
	} {
		for _, n := range []int{field.low - 1, field.high + 1, math.MinInt, math.MaxInt} {
			rows = append(rows, stateRow{fmt.Sprintf("%s %d", field.name, n), func(s *match.State) { *field.number(s) = n }, api.ErrRange})
			// A number out of its range is found before all others.
			rows = append(rows, stateRow{fmt.Sprintf("%s %d and no sets", field.name, n), func(s *match.State) { *field.number(s), s.Past, s.Warned[0] = n, nil, true }, api.ErrRange})
		}
		for _, n := range []int{field.low, field.high} {
			s := base
			*field.number(&s) = n
			if match.CheckState(m, s) == api.ErrRange {
				t.Errorf("%s %d is out of its range", field.name, n)
			}
		}
	}
	testStates(t, m, base, rows)
}

func TestSetsOfStates(t *testing.T) {
	m, base := middle()
	past := func(sets ...[2]int) func(s *match.State) {
		return func(s *match.State) { s.Past = sets }
	}
	testStates(t, m, base, []stateRow{
		{"another order of the sets", past([2]int{0, 4}, [2]int{4, 3}), api.OK},
		{"one set", past([2]int{4, 1}), api.ErrShape},
		{"three sets", past([2]int{4, 1}, [2]int{9, 9}, [2]int{0, 4}), api.ErrShape},
		{"no sets", past(), api.ErrShape},
		{"frames below 0", past([2]int{-1, 4}, [2]int{0, 0}), api.ErrRange},
		{"frames below the start", past([2]int{4, 0}, [2]int{1, 4}), api.ErrRange},
		{"frames above those to win", past([2]int{4, 1}, [2]int{1, 5}), api.ErrRange},
		{"frames above those to win of 0", past([2]int{5, 4}, [2]int{1, 4}), api.ErrRange},
		{"a set that nobody has won", past([2]int{3, 3}, [2]int{9, 9}), api.ErrForm},
		{"a set that both have won", past([2]int{4, 4}, [2]int{9, 9}), api.ErrForm},
		{"a second set that nobody has won", past([2]int{4, 3}, [2]int{1, 3}), api.ErrForm},
		{"two sets of one player", past([2]int{4, 1}, [2]int{4, 1}), api.ErrConflict},
		{"two sets of the other player", past([2]int{0, 4}, [2]int{0, 4}), api.ErrConflict},
		{"two sets of one player, and a warning", func(s *match.State) { s.Past, s.Running, s.Warned[0] = [][2]int{{4, 1}, {4, 1}}, false, true }, api.ErrConflict},
		{"two sets won", func(s *match.State) { s.Sets, s.Past = [2]int{2, 0}, [][2]int{{4, 1}, {4, 1}} }, api.ErrState},
		{"two sets won by the winner", func(s *match.State) {
			s.Sets, s.Past, s.Winner, s.Running = [2]int{2, 0}, [][2]int{{4, 1}, {4, 1}}, 0, false
		}, api.OK},
		{"two sets won by the winner, in the middle of a frame", func(s *match.State) { s.Sets, s.Past, s.Winner = [2]int{0, 2}, [][2]int{{0, 4}, {0, 4}}, 1 }, api.ErrState},
		{"two sets won by the other player", func(s *match.State) {
			s.Sets, s.Past, s.Winner, s.Running = [2]int{2, 0}, [][2]int{{4, 1}, {4, 1}}, 1, false
		}, api.ErrState},
		{"two sets won by the first player", func(s *match.State) {
			s.Sets, s.Past, s.Winner, s.Running = [2]int{1, 2}, [][2]int{{4, 1}, {0, 4}, {0, 4}}, 0, false
		}, api.ErrState},
		{"three sets won by the winner", func(s *match.State) {
			s.Sets, s.Past, s.Winner, s.Running = [2]int{1, 2}, [][2]int{{0, 4}, {0, 4}, {4, 1}}, 1, false
		}, api.OK},
		{"two sets won by both", func(s *match.State) {
			s.Sets, s.Past, s.Winner, s.Running = [2]int{2, 2}, [][2]int{{4, 1}, {4, 1}, {0, 4}, {0, 4}}, 1, false
		}, api.ErrState},
		{"two sets won by both, without a winner", func(s *match.State) { s.Sets, s.Past = [2]int{2, 2}, [][2]int{{4, 1}, {4, 1}, {0, 4}, {0, 4}} }, api.ErrState},
	})
}

func TestFramesThatAreRunning(t *testing.T) {
	m, base := middle()
	testStates(t, m, base, []stateRow{
		{"a warning", func(s *match.State) { s.Warned[0] = true }, api.OK},
		{"two warnings", func(s *match.State) { s.Warned = [2]bool{true, true} }, api.OK},
		{"no frame", func(s *match.State) { s.Running = false }, api.OK},
		{"no frame, and a warning of 0", func(s *match.State) { s.Running, s.Warned[0] = false, true }, api.ErrState},
		{"no frame, and a warning of 1", func(s *match.State) { s.Running, s.Warned[1] = false, true }, api.ErrState},
		{"a winner", func(s *match.State) { s.Winner = 1 }, api.ErrState},
		{"the winner 0", func(s *match.State) { s.Winner = 0 }, api.ErrState},
		{"a winner, and no frame", func(s *match.State) { s.Winner, s.Running = 1, false }, api.OK},
		{"a winner, no frame, and a warning", func(s *match.State) { s.Winner, s.Running, s.Warned[0] = 1, false, true }, api.ErrState},
	})
	m.Clock = 0
	testStates(t, m, base, []stateRow{
		{"a warning of 0 without a clock", func(s *match.State) { s.Warned[0] = true }, api.ErrState},
		{"a warning of 1 without a clock", func(s *match.State) { s.Warned[1] = true }, api.ErrState},
		{"no frame, without a clock", func(s *match.State) { s.Running = false }, api.OK},
	})
}

// An entryRow is an entry with its error.
type entryRow struct {
	player int
	kind   string
	value  int
	e      api.Errno
}

// entryRows returns entries of many forms.
func entryRows() []entryRow {
	rows := []entryRow{
		{0, "shot", 0, api.OK}, {1, "shot", 30, api.OK}, {0, "shot", 999999999, api.OK}, {0, "shot", 1000000000, api.ErrRange}, {0, "shot", -1, api.ErrRange}, {0, "shot", math.MaxInt, api.ErrRange},
		{2, "shot", 0, api.ErrRange}, {-1, "shot", 0, api.ErrRange}, {2, "", -1, api.ErrRange}, {math.MinInt, "x", -1, api.ErrRange},
		{0, "", 0, api.ErrKind}, {1, "Shot", -1, api.ErrKind}, {0, "frames", 0, api.ErrKind}, {0, "break ", 0, api.ErrKind},
	}
	for _, kind := range []string{"break", "out", "frame", "concede", "leave"} {
		rows = append(rows,
			entryRow{0, kind, 0, api.OK}, entryRow{1, kind, 0, api.OK}, entryRow{0, kind, 1, api.ErrForm}, entryRow{1, kind, 999999999, api.ErrForm},
			entryRow{0, kind, 1000000000, api.ErrRange}, entryRow{0, kind, -1, api.ErrRange}, entryRow{2, kind, 1, api.ErrRange},
		)
	}
	return rows
}

func TestEntries(t *testing.T) {
	m := example()
	good := entry("break 0")
	for _, row := range entryRows() {
		e := match.Entry{Player: row.player, Kind: row.kind, Value: row.value}
		what := fmt.Sprintf(" of %+v", e)
		want(t, "CheckLog"+what, all(match.CheckLog(m, []match.Entry{e})), all(row.e))
		first := row.e
		if first == api.OK {
			first = api.ErrKind
		}
		want(t, "CheckLog with another error behind"+what, all(match.CheckLog(m, []match.Entry{good, e, {Kind: "x"}})), all(first))
		_, code := match.Legal(m, beginning(m), e)
		want(t, "Legal"+what, all(code), all(row.e))
		if row.e != api.OK {
			wantError(t, "Legal"+what, all(match.Legal(m, beginning(m), e)), row.e)
			wantError(t, "Next"+what, all(match.Next(m, beginning(m), e)), row.e)
			// The state comes before the entry.
			wantError(t, "Legal in no state"+what, all(match.Legal(m, beginning(m, func(s *match.State) { s.Past = [][2]int{{}} }), e)), api.ErrShape)
		}
	}
}

func TestCheckLog(t *testing.T) {
	m := example()
	long := make([]match.Entry, 1001)
	for i := range long {
		long[i] = entry("leave 1")
	}
	want(t, "no entries", all(match.CheckLog(m, nil)), all(api.OK))
	want(t, "1000 entries", all(match.CheckLog(m, long[1:])), all(api.OK))
	want(t, "1001 entries", all(match.CheckLog(m, long)), all(api.ErrMany))
	long[0].Kind = ""
	want(t, "1001 entries, the first one of which has an error", all(match.CheckLog(m, long)), all(api.ErrMany))
	wantError(t, "Replay of 1001 entries", all(match.Replay(m, long)), api.ErrMany)
	wantError(t, "Without of 1001 entries", all(match.Without(m, long, 0)), api.ErrMany)
	want(t, "two errors", all(match.CheckLog(m, []match.Entry{{Kind: "break"}, {Kind: "out", Value: 1}, {Kind: ""}})), all(api.ErrForm))
}
