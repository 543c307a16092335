package match_test

import (
	"fmt"
	"testing"

	"baulk/api"
	"baulk/match"
)

// Tests of P7.3 (the beginning, the rules, and what entries do).

func TestStart(t *testing.T) {
	m := example()
	want(t, "example 4", all(match.Start(m)), all(match.State{Winner: -1}, api.OK))
	m.Starts = [2]int{0, 1}
	want(t, "with starts", all(match.Start(m)), all(match.State{Frames: [2]int{0, 1}, Winner: -1}, api.OK))
	s, _ := match.Start(m)
	want(t, "CheckState at the beginning", all(match.CheckState(m, s)), all(api.OK))
}

// withClock returns the match of the examples with a clock and time outs.
func withClock(clock, outs int) match.Match {
	m := example()
	m.Clock, m.Outs = clock, outs
	return m
}

func TestRules(t *testing.T) {
	set := "break 0, frame 0, break 1, frame 0, "
	for _, row := range []struct {
		m     match.Match
		log   string
		entry string
		rule  int
	}{
		{example(), "", "break 0", 0},
		{example(), "", "break 1", 3},
		{example(), "break 0", "break 0", 2},
		{example(), "break 0", "break 1", 2},
		{example(), "break 0, frame 1", "break 0", 3},
		{example(), "break 0, frame 1", "break 1", 0},
		{example(), set, "break 1", 0},
		{example(), set, "break 0", 3},
		// Without a frame.
		{example(), "", "shot 0 31", 4}, {example(), "", "shot 1", 4}, {example(), "", "out 0", 4}, {example(), "", "frame 0", 4}, {example(), "", "concede 1", 4}, {example(), "", "leave 0", 0}, {example(), "", "leave 1", 0},
		{example(), "break 0, frame 1", "frame 1", 4}, {example(), set, "frame 0", 4},
		// In a frame.
		{example(), "break 0", "shot 0 31", 0}, {example(), "break 0", "shot 1", 0}, {example(), "break 0", "out 0", 0}, {example(), "break 0", "out 1", 0},
		{example(), "break 0", "frame 0", 0}, {example(), "break 0", "frame 1", 0}, {example(), "break 0", "concede 0", 0}, {example(), "break 0", "concede 1", 0}, {example(), "break 0", "leave 0", 0}, {example(), "break 0", "leave 1", 0},
		// The clock.
		{withClock(0, 1), "", "shot 0", 4}, {withClock(0, 1), "break 0", "shot 0", 5}, {withClock(0, 1), "break 0", "shot 1 99", 5}, {withClock(1, 0), "break 0", "shot 1 99", 0}, {withClock(0, 1), "break 0", "out 1", 0},
		// Time outs.
		{withClock(30, 0), "", "out 0", 4}, {withClock(30, 0), "break 0", "out 0", 6}, {withClock(30, 0), "break 0", "out 1", 6}, {withClock(30, 1), "break 0, out 0", "out 0", 6}, {withClock(30, 1), "break 0, out 0", "out 1", 0},
		{withClock(30, 1), "break 0, out 0, frame 1, break 1", "out 0", 6}, {withClock(30, 2), "break 0, out 0", "out 0", 0}, {withClock(30, 1), "break 0, out 0, frame 0, break 1, frame 0, break 1", "out 0", 0},
		// A winner.
		{example(), "leave 1", "break 0", 1}, {example(), "leave 1", "break 1", 1}, {example(), "leave 1", "shot 0", 1}, {example(), "leave 1", "out 0", 1}, {example(), "leave 1", "frame 0", 1}, {example(), "leave 1", "concede 1", 1}, {example(), "leave 1", "leave 1", 1}, {example(), "leave 0", "leave 1", 1},
		{example(), set + "break 1, frame 0, break 0, frame 0", "break 0", 1}, {example(), set + "break 1, frame 0, break 0, frame 0", "leave 0", 1},
	} {
		s, e := after(t, row.m, row.log), entry(row.entry)
		what := fmt.Sprintf("%s after %s", row.entry, row.log)
		want(t, "Legal: "+what, all(match.Legal(row.m, s, e)), all(row.rule, api.OK))
		next, code := match.Next(row.m, s, e)
		if row.rule != 0 {
			wantError(t, "Next: "+what, all(next, code), api.ErrRule)
			continue
		}
		want(t, "CheckState: "+what, all(match.CheckState(row.m, next), code), all(api.OK, api.OK))
	}
}

// A nextRow is an entry in a state that is changed from a base, and what it changes.
type nextRow struct {
	name   string
	before func(s *match.State)
	entry  string
	change func(s *match.State)
}

// testNext checks what entries do.
func testNext(t *testing.T, m match.Match, base match.State, rows []nextRow) {
	t.Helper()
	for _, row := range rows {
		s := base
		row.before(&s)
		wanted := s
		row.change(&wanted)
		want(t, row.name+": "+row.entry, all(match.Next(m, s, entry(row.entry))), all(wanted, api.OK))
	}
}

// same changes nothing.
func same(*match.State) {}

func TestFrames(t *testing.T) {
	m, base := middle()
	stopped := func(s *match.State) { s.Running = false }
	warned := func(s *match.State) { s.Warned = [2]bool{true, true} }
	testNext(t, m, base, []nextRow{
		{"a break", stopped, "break 1", func(s *match.State) { s.Running = true }},
		{"a frame", same, "frame 0", func(s *match.State) { s.Frames[0], s.Running, s.Breaker = 3, false, 0 }},
		{"a frame, with warnings", warned, "frame 0", func(s *match.State) { s.Frames[0], s.Running, s.Breaker, s.Warned = 3, false, 0, [2]bool{} }},
		{"a frame that is given up", same, "concede 1", func(s *match.State) { s.Frames[0], s.Running, s.Breaker = 3, false, 0 }},
		{"a frame that is given up, with warnings", warned, "concede 1", func(s *match.State) { s.Frames[0], s.Running, s.Breaker, s.Warned = 3, false, 0, [2]bool{} }},
		{"a time out", same, "out 1", func(s *match.State) { s.Outs[1] = 2 }},
		{"a time out of the other one", func(s *match.State) { s.Outs[0] = 0 }, "out 0", func(s *match.State) { s.Outs[0] = 1 }},
		{"who leaves", same, "leave 0", func(s *match.State) { s.Winner, s.Running = 1, false }},
		{"who leaves with warnings", warned, "leave 1", func(s *match.State) { s.Winner, s.Running, s.Warned = 0, false, [2]bool{} }},
		{"who leaves between frames", stopped, "leave 1", func(s *match.State) { s.Winner = 0 }},
	})
}

func TestClock(t *testing.T) {
	m, base := middle()
	warned := func(players ...int) func(s *match.State) {
		return func(s *match.State) {
			for _, player := range players {
				s.Warned[player] = true
			}
		}
	}
	lost := func(s *match.State) { s.Frames[0], s.Running, s.Breaker, s.Warned = 3, false, 0, [2]bool{} }
	testNext(t, m, base, []nextRow{
		{"no time", same, "shot 0 0", same},
		{"just the time", same, "shot 1 30", same},
		{"a second more", same, "shot 1 31", warned(1)},
		{"a second more, of the other one", same, "shot 0 31", warned(0)},
		{"much more", same, "shot 0 999999999", warned(0)},
		{"just the time with a warning", warned(1), "shot 1 30", same},
		{"too much with a warning of the other one", warned(0), "shot 1 31", warned(1)},
		{"too much with a warning", warned(1), "shot 1 31", lost},
		{"too much with two warnings", warned(0, 1), "shot 1 99", lost},
	})
}

func TestOrdersOfBreaks(t *testing.T) {
	for _, row := range []struct {
		order     string
		breaker   int
		first     int // who breaks after a frame of the player 0
		second    int // .. of the player 1
		lastFirst int // .. after a set of the player 0
	}{
		{"alternate", 0, 1, 1, 1}, {"alternate", 1, 0, 0, 1}, {"winner", 0, 0, 1, 1}, {"winner", 1, 0, 1, 1}, {"loser", 0, 1, 0, 1}, {"loser", 1, 1, 0, 1},
	} {
		m := match.Match{Players: [2]string{"a", "b"}, Sets: 3, Frames: 3, Order: row.order}
		s := beginning(m, func(s *match.State) { s.Frames, s.Breaker, s.Running = [2]int{1, 1}, row.breaker, true })
		for player, breaker := range []int{row.first, row.second} {
			next, _ := match.Next(m, s, match.Entry{Player: player, Kind: "frame"})
			want(t, fmt.Sprintf("the breaker after %+v for %d", row, player), all(next.Breaker), all(breaker))
		}
		s.Frames[0] = 2
		next, _ := match.Next(m, s, entry("frame 0"))
		want(t, fmt.Sprintf("the breaker after a set %+v", row), all(next.Breaker, next.Sets), all(1, [2]int{1, 0}))
	}
}

func TestSets(t *testing.T) {
	m, base := middle()
	last := func(s *match.State) { s.Frames[0], s.Warned[1] = 3, true }
	won := func(player int, frames [2]int) func(s *match.State) {
		return func(s *match.State) {
			s.Sets[player]++
			s.Past = append(s.Past, frames)
			s.Frames, s.Outs, s.Warned, s.Running, s.Breaker = m.Starts, [2]int{}, [2]bool{}, false, 1
			s.Winner = player
		}
	}
	testNext(t, m, base, []nextRow{
		{"the last frame", last, "frame 0", won(0, [2]int{4, 3})},
		{"the last frame of the other one", last, "frame 1", won(1, [2]int{3, 4})},
		{"the last frame that is given up", last, "concede 0", won(1, [2]int{3, 4})},
		{"the last frame by the clock", last, "shot 1 31", won(0, [2]int{4, 3})},
	})
	// With more sets to win the match goes on.
	m.Sets = 3
	for player, sets := range [][2]int{{2, 1}, {1, 2}} {
		s := base
		s.Frames[0] = 3
		frames := [2]int{3, 3}
		frames[player]++
		wanted := match.State{Sets: sets, Frames: [2]int{0, 1}, Past: append(s.Past, frames), Breaker: 1, Winner: -1}
		want(t, "the third set", all(match.Next(m, s, match.Entry{Player: player, Kind: "frame"})), all(wanted, api.OK))
	}
}

func TestWhoBreaksSets(t *testing.T) {
	m := match.Match{Players: [2]string{"a", "b"}, Sets: 16, Frames: 1, Order: "loser"}
	s := beginning(m)
	for n := range 31 {
		want(t, fmt.Sprintf("the breaker of the set %d", n+1), all(s.Breaker, len(s.Past), s.Winner), all(n%2, n, -1))
		s, _ = match.Next(m, s, match.Entry{Player: n % 2, Kind: "break"})
		s, _ = match.Next(m, s, match.Entry{Player: (n + 1) / 2 % 2, Kind: "frame"})
	}
	want(t, "the end", all(s.Winner, s.Sets, s.Breaker, s.Frames), all(1, [2]int{15, 16}, 1, [2]int{}))
}

func TestExamples(t *testing.T) {
	m := example()
	s := after(t, m, "break 0, frame 0, break 1, frame 0")
	want(t, "example 4: the first set", all(s), all(match.State{Sets: [2]int{1, 0}, Past: [][2]int{{2, 0}}, Breaker: 1, Winner: -1}))
	for text, rule := range map[string]int{"break 0": 3, "frame 0": 4, "break 1": 0} {
		want(t, "after the first set: "+text, all(match.Legal(m, s, entry(text))), all(rule, api.OK))
	}
	s = after(t, m, "break 0, frame 0, break 1, frame 0, break 1, shot 1 31, shot 1 40")
	want(t, "example 4: a frame by the clock", all(s), all(match.State{Sets: [2]int{1, 0}, Frames: [2]int{1, 0}, Past: [][2]int{{2, 0}}, Winner: -1}))
	want(t, "example 5: break 1", all(match.Legal(m, s, entry("break 1"))), all(3, api.OK))
	want(t, "example 5: frame 0", all(match.Legal(m, s, entry("frame 0"))), all(4, api.OK))
	s, e := match.Next(m, s, entry("leave 1"))
	want(t, "example 5: leave", all(s.Winner, e), all(0, api.OK))
	for _, text := range []string{"break 0", "break 1", "shot 0 9", "out 1", "frame 0", "concede 1", "leave 0"} {
		want(t, "example 5: after it "+text, all(match.Legal(m, s, entry(text))), all(1, api.OK))
	}
}

func TestErrorsOfStates(t *testing.T) {
	m, base := middle()
	bad := base
	bad.Past = nil
	wantError(t, "Legal", all(match.Legal(m, bad, match.Entry{Player: 7})), api.ErrShape)
	wantError(t, "Next", all(match.Next(m, bad, match.Entry{Player: 7})), api.ErrShape)
	wantError(t, "Line", all(match.Line(m, bad)), api.ErrShape)
	wantError(t, "Live", all(match.Live(m, bad, odds("", ""))), api.ErrShape)
	wantError(t, "Remaining", all(match.Remaining(m, bad)), api.ErrShape)
	m.Sets = 0
	wantError(t, "Legal in no match", all(match.Legal(m, bad, match.Entry{Player: 7})), api.ErrRange)
	wantError(t, "Next in no match", all(match.Next(m, bad, match.Entry{Player: 7})), api.ErrRange)
	wantError(t, "Replay of no match", all(match.Replay(m, make([]match.Entry, 1001))), api.ErrRange)
	wantError(t, "Without of no match", all(match.Without(m, make([]match.Entry, 1001), 0)), api.ErrRange)
	wantError(t, "Line of no match", all(match.Line(m, bad)), api.ErrRange)
	wantError(t, "Live of no match", all(match.Live(m, bad, odds("", ""))), api.ErrRange)
	wantError(t, "Remaining of no match", all(match.Remaining(m, bad)), api.ErrRange)
}
