package match_test

import (
	"fmt"
	"strings"
	"testing"

	"baulk/api"
	"baulk/match"
)

// Tests of P7.5 (scores).

func TestLine(t *testing.T) {
	set := "break 0, frame 0, break 1, frame 0"
	for log, line := range map[string]string{
		"":                                      "0:0",
		"break 0":                               "0:0",
		"break 0, frame 1":                      "0:0 (0:1)",
		"break 0, frame 0, leave 1":             "0:0 (1:0)",
		"leave 0":                               "0:0",
		set:                                     "1:0 (2:0)",
		set + ", break 1, frame 1":              "1:0 (2:0, 0:1)",
		set + ", break 1, shot 1 31, shot 1 40": "1:0 (2:0, 1:0)",
		set + ", break 1, frame 0, break 0, frame 1":                                     "1:0 (2:0, 1:1)",
		set + ", break 1, frame 1, break 0, frame 1":                                     "1:1 (2:0, 0:2)",
		set + ", break 1, frame 0, break 0, frame 1, break 1, concede 1":                 "2:0 (2:0, 2:1)",
		set + ", break 1, frame 1, break 0, frame 1, break 0, frame 1, break 1, frame 0": "1:1 (2:0, 0:2, 1:1)",
		set + ", break 1, frame 1, break 0, frame 1, break 0, frame 1, break 1, frame 1": "1:2 (2:0, 0:2, 0:2)",
	} {
		m := example()
		want(t, "Line after "+log, all(match.Line(m, after(t, m, log))), all(line, api.OK))
	}
	m := example()
	m.Frames, m.Starts = 12, [2]int{0, 3}
	want(t, "Line at a start", all(match.Line(m, beginning(m))), all("0:0", api.OK))
	s := beginning(m, func(s *match.State) { s.Frames[1] = 4 })
	want(t, "Line after a start", all(match.Line(m, s)), all("0:0 (0:4)", api.OK))
	s = beginning(m, func(s *match.State) { s.Sets[1], s.Past, s.Frames = 1, [][2]int{{11, 12}}, [2]int{10, 11} })
	want(t, "Line of many frames", all(match.Line(m, s)), all("0:1 (11:12, 10:11)", api.OK))
	s.Frames = m.Starts
	want(t, "Line after a set, at the start", all(match.Line(m, s)), all("0:1 (11:12)", api.OK))
}

func TestRemaining(t *testing.T) {
	for _, row := range []struct {
		name      string
		sets      int
		frames    int
		starts    [2]int
		change    func(s *match.State)
		remaining [2]int
	}{
		{"example 6", 2, 2, [2]int{}, same, [2]int{4, 9}},
		{"one frame", 1, 1, [2]int{}, same, [2]int{1, 1}},
		{"the longest match", 16, 32, [2]int{}, same, [2]int{512, 1953}},
		{"a running frame", 2, 2, [2]int{}, func(s *match.State) { s.Running = true }, [2]int{4, 9}},
		{"a frame of 0", 2, 2, [2]int{}, func(s *match.State) { s.Frames = [2]int{1, 0} }, [2]int{3, 8}},
		{"a frame of 1", 2, 2, [2]int{}, func(s *match.State) { s.Frames = [2]int{0, 1} }, [2]int{3, 8}},
		{"the last frame of a set", 2, 2, [2]int{}, func(s *match.State) { s.Frames = [2]int{1, 1} }, [2]int{3, 7}},
		{"a set", 2, 2, [2]int{}, func(s *match.State) { s.Sets[1], s.Past = 1, [][2]int{{1, 2}} }, [2]int{2, 6}},
		{"the last frame", 2, 2, [2]int{}, func(s *match.State) { s.Sets, s.Past, s.Frames = [2]int{1, 1}, [][2]int{{1, 2}, {2, 0}}, [2]int{1, 1} }, [2]int{1, 1}},
		{"starts", 3, 4, [2]int{0, 2}, same, [2]int{6, 25}},
		{"starts of the player 0", 3, 4, [2]int{3, 1}, func(s *match.State) { s.Frames[1] = 3 }, [2]int{3, 13}},
		// The player 1 has further to go in the set, but the player 0 still needs two more.
		{"a set behind", 3, 4, [2]int{}, func(s *match.State) { s.Sets, s.Past, s.Frames = [2]int{0, 2}, [][2]int{{0, 4}, {0, 4}}, [2]int{3, 0} }, [2]int{4, 18}},
		{"a set ahead", 3, 4, [2]int{}, func(s *match.State) { s.Sets, s.Past, s.Frames = [2]int{2, 0}, [][2]int{{4, 0}, {4, 0}}, [2]int{3, 0} }, [2]int{1, 18}},
		{"a winner", 2, 2, [2]int{}, func(s *match.State) { s.Sets, s.Past, s.Winner = [2]int{2, 0}, [][2]int{{2, 0}, {2, 1}}, 0 }, [2]int{}},
		{"who has left", 2, 2, [2]int{}, func(s *match.State) { s.Winner = 1 }, [2]int{}},
	} {
		m := match.Match{Players: [2]string{"a", "b"}, Sets: row.sets, Frames: row.frames, Order: "winner", Starts: row.starts}
		want(t, "Remaining: "+row.name, all(match.Remaining(m, beginning(m, row.change))), all(row.remaining, api.OK))
	}
}

func TestLive(t *testing.T) {
	m, half := example(), odds("1/2", "1/2")
	set := "break 0, frame 0, break 1, frame 0"
	for _, row := range []struct {
		name string
		log  string
		o    match.Odds
		live api.Rat
	}{
		{"example 6", "", half, "1/2"},
		{"example 6, after a set", set, half, "3/4"},
		{"a running frame", "break 0", half, "1/2"},
		{"a frame", "break 0, frame 0", half, "5/8"},
		{"a frame in the second set", set + ", break 1, frame 1", half, "5/8"},
		{"a chance that is decided", "", odds("1", "1"), "1"},
		{"the other one", "", odds("0", "0"), "0"},
		{"breaks decide", "", odds("1", "0"), "1"},
		{"breaks decide after a frame", "break 0, frame 1", odds("1", "0"), "0"},
		{"breaks decide after a set", set, odds("1", "0"), "1"},
		{"a winner", set + ", break 1, frame 0, break 0, frame 0", odds("1/3", "1/7"), "1"},
		{"a winner who is the player 1", "leave 0", odds("1/3", "1/7"), "0"},
		{"a winner, with long odds", "leave 1", odds("1/"+nines(600), "1/"+nines(600)), "1"},
		// A set is won with 20/27, the match with twice of three sets.
		{"a better player", "", odds("2/3", "2/3"), "16400/19683"},
	} {
		want(t, "Live: "+row.name, all(match.Live(m, after(t, m, row.log), row.o)), all(row.live, api.OK))
	}
	m.Sets = 1
	want(t, "Live of a set", all(match.Live(m, beginning(m), odds("2/3", "2/3"))), all(api.Rat("20/27"), api.OK))
	want(t, "Live of a set, after a frame", all(match.Live(m, after(t, m, "break 0, frame 1"), odds("2/3", "1/5"))), all(api.Rat("2/15"), api.OK))
	m.Frames = 1
	want(t, "Live of a frame", all(match.Live(m, beginning(m), odds("2/3", "1/5"))), all(api.Rat("2/3"), api.OK))
	want(t, "Live of a frame of the other one", all(match.Live(m, beginning(m, func(s *match.State) { s.Breaker, s.Running = 1, true }), odds("2/3", "1/5"))), all(api.Rat("1/5"), api.OK))
	m.Sets = 2
	want(t, "Live of frames", all(match.Live(m, beginning(m), odds("2/3", "1/5"))), all(api.Rat("8/15"), api.OK))
}

func TestErrorsOfLive(t *testing.T) {
	m := example()
	for _, row := range []struct {
		o match.Odds
		e api.Errno
	}{{odds("", "2"), api.ErrForm}, {odds("2", ""), api.ErrRange}, {odds("1", "-1/2"), api.ErrRange}, {odds("1", digits(601, 1)), api.ErrLarge}} {
		wantError(t, "Live", all(match.Live(m, beginning(m), row.o)), row.e)
		wantError(t, "Live with a winner", all(match.Live(m, beginning(m, func(s *match.State) { s.Winner = 0 }), row.o)), row.e)
	}
}

func TestLargeLives(t *testing.T) {
	m := match.Match{Players: [2]string{"a", "b"}, Sets: 16, Frames: 32, Order: "loser"}
	live, e := match.Live(m, beginning(m), odds("1/2", "1/2"))
	want(t, "Live of the longest match", all(live, e), all(api.Rat("1/2"), api.OK))
	wantError(t, "Live by thirds", all(match.Live(m, beginning(m), odds("1/3", "1/3"))), api.ErrLarge)
	m.Frames = 20
	live, e = match.Live(m, beginning(m), odds("1/3", "1/3"))
	if _, bottom, _ := strings.Cut(string(live), "/"); e != api.OK || len(bottom) < 550 {
		t.Errorf("Live by thirds in a shorter match: %s, %d", live, e)
	}
	m.Frames = 32
	long := odds(digits(600, 0)+"/"+nines(600), digits(599, 0)+"/"+digits(600, 1))
	for _, order := range orders() {
		m.Order = order
		wantError(t, "Live with long odds, "+order, all(match.Live(m, beginning(m), long)), api.ErrLarge)
	}
	last := func(s *match.State) {
		s.Sets, s.Frames, s.Breaker = [2]int{15, 15}, [2]int{31, 31}, 1
		for i := range 30 {
			s.Past = append(s.Past, [][2]int{{32, 0}, {0, 32}}[i%2])
		}
	}
	want(t, "Live in the last frame", all(match.Live(m, beginning(m, last), long)), all(long.Other, api.OK))
}

func TestLongChancesThatAreDecided(t *testing.T) {
	small := "1/" + digits(600, 7)
	m := match.Match{Players: [2]string{"a", "b"}, Sets: 2, Frames: 16, Order: "alternate"}
	for _, order := range orders() {
		m.Order = order
		want(t, "Live of who wins the own breaks, "+order, all(match.Live(m, beginning(m), odds("1", small))), all(api.Rat("1"), api.OK))
		// The player 1 breaks the second set, and the player 0 wins it with a chance that is too long.
		s := beginning(m, func(s *match.State) { s.Sets[1], s.Past, s.Breaker = 1, [][2]int{{15, 16}}, 1 })
		wantError(t, "Live in a set of the other one, "+order, all(match.Live(m, s, odds("1", small))), api.ErrLarge)
	}
	m.Order = "winner"
	s := beginning(m, func(s *match.State) { s.Sets[1], s.Past, s.Breaker, s.Frames[1] = 1, [][2]int{{15, 16}}, 1, 15 })
	want(t, "Live with one frame to win", all(match.Live(m, s, odds("1", small))), all(small, api.OK))
}

func TestDocumentedLives(t *testing.T) {
	// The chapter's example 6 in all orders: who breaks does not matter by halves.
	for _, order := range orders() {
		m := example()
		m.Order = order
		for breaker := range 2 {
			s := beginning(m, func(s *match.State) { s.Breaker = breaker })
			want(t, fmt.Sprintf("Live, %s, %d", order, breaker), all(match.Live(m, s, odds("1/2", "1/2"))), all(api.Rat("1/2"), api.OK))
		}
	}
}
