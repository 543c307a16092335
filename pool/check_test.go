package pool_test

import (
	"fmt"
	"math"
	"testing"

	"baulk/api"
	"baulk/pool"
)

// Tests of P5.1 (forms).

func TestRules(t *testing.T) {
	for _, row := range []struct {
		r pool.Rules
		e api.Errno
	}{
		{straight(1, 0), api.OK}, {straight(200, 9), api.OK}, {straight(100, 2), api.OK}, {eight(0), api.OK}, {eight(2), api.OK}, {nine(0), api.OK}, {nine(9), api.OK},
		{pool.Rules{}, api.ErrKind}, {pool.Rules{Game: "Straight", Target: 1}, api.ErrKind}, {pool.Rules{Game: "snooker"}, api.ErrKind}, {pool.Rules{Game: "nine "}, api.ErrKind}, {pool.Rules{Game: "pool", Target: -1, Fouls: 1}, api.ErrKind},
		{straight(0, 0), api.ErrRange}, {straight(201, 0), api.ErrRange}, {straight(-1, 0), api.ErrRange}, {straight(math.MinInt, 3), api.ErrRange},
		{straight(9, 1), api.ErrRange}, {straight(9, 10), api.ErrRange}, {straight(9, -1), api.ErrRange}, {eight(1), api.ErrRange}, {eight(10), api.ErrRange}, {nine(-2), api.ErrRange}, {nine(math.MaxInt), api.ErrRange},
		{pool.Rules{Game: "eight", Target: 1}, api.ErrRange}, {pool.Rules{Game: "nine", Target: 9}, api.ErrRange}, {pool.Rules{Game: "nine", Target: -1}, api.ErrRange},
	} {
		want(t, fmt.Sprintf("CheckRules of %+v", row.r), all(pool.CheckRules(row.r)), all(row.e))
		wantError(t, fmt.Sprintf("Start of %+v", row.r), all(pool.Start(row.r)), row.e)
	}
}

func TestStart(t *testing.T) {
	for _, r := range games() {
		want(t, fmt.Sprintf("Start of %+v", r), all(pool.Start(r)), all(pool.State{Break: true, Balls: rack(r.Game), Racks: 1}, api.OK))
	}
}

// kinds returns the kinds of shots.
func kinds() []string { return []string{"break", "play", "safety", "push", "pass", "concede"} }

// pots returns a pot for each of some balls, all in one pocket.
func pots(pocket int, balls ...int) []pool.Pot {
	var list []pool.Pot
	for _, ball := range balls {
		list = append(list, pool.Pot{Ball: ball, Pocket: pocket})
	}
	return list
}

// allPots returns a pot for each ball, with the cue ball, and some more ones.
func allPots(more ...pool.Pot) []pool.Pot {
	return append(pots(1, append(upTo(15), 0)...), more...)
}

func TestShots(t *testing.T) {
	for _, kind := range kinds() {
		for player, e := range map[int]api.Errno{0: api.OK, 1: api.OK, 2: api.ErrRange, -1: api.ErrRange, math.MaxInt: api.ErrRange} {
			want(t, fmt.Sprintf("CheckShot of the player %d, %s", player, kind), all(pool.CheckShot(pool.Shot{Player: player, Kind: kind})), all(e))
		}
	}
	for _, row := range []struct {
		x pool.Shot
		e api.Errno
	}{
		{pool.Shot{}, api.ErrKind}, {pool.Shot{Kind: "Play"}, api.ErrKind}, {pool.Shot{Kind: "play "}, api.ErrKind}, {pool.Shot{Kind: "miss", Ball: 16}, api.ErrKind}, {pool.Shot{Player: 2, Kind: "miss"}, api.ErrRange},
		{pool.Shot{Kind: "play", Ball: 15, Pocket: 6, First: 15, Cushion: true, Pots: allPots()}, api.OK},
		{pool.Shot{Kind: "break", Ball: 1, Pocket: 1, First: 1, Pots: pots(6, 0, 15)}, api.OK},
		{pool.Shot{Kind: "push", Pots: pots(3, 7)}, api.OK}, {pool.Shot{Kind: "safety", Cushion: true}, api.OK},
		{pool.Shot{Kind: "play", Ball: 16, Pocket: 1}, api.ErrRange}, {pool.Shot{Kind: "play", Ball: -1, Pocket: 1}, api.ErrRange}, {pool.Shot{Kind: "play", Ball: 1, Pocket: 7}, api.ErrRange}, {pool.Shot{Kind: "play", Ball: 1, Pocket: -1}, api.ErrRange}, {pool.Shot{Kind: "play", First: 16}, api.ErrRange}, {pool.Shot{Kind: "play", First: -1}, api.ErrRange},
		{pool.Shot{Kind: "play", Ball: 1}, api.ErrShape}, {pool.Shot{Kind: "play", Pocket: 1}, api.ErrShape}, {pool.Shot{Kind: "play", Ball: 16}, api.ErrRange}, {pool.Shot{Kind: "play", Ball: 1, First: 99}, api.ErrRange},
		{pool.Shot{Kind: "play", Ball: 1, Pots: make([]pool.Pot, 17)}, api.ErrShape}, {pool.Shot{Kind: "play", Pots: make([]pool.Pot, 17)}, api.ErrMany}, {pool.Shot{Kind: "play", Pots: allPots(pool.Pot{Ball: 1, Pocket: 2})}, api.ErrMany}, {pool.Shot{Kind: "pass", Pots: allPots(pool.Pot{})}, api.ErrMany},
		{pool.Shot{Kind: "play", Pots: pots(1, 16)}, api.ErrRange}, {pool.Shot{Kind: "play", Pots: pots(1, -1)}, api.ErrRange}, {pool.Shot{Kind: "play", Pots: pots(0, 1)}, api.ErrRange}, {pool.Shot{Kind: "play", Pots: pots(7, 1)}, api.ErrRange}, {pool.Shot{Kind: "play", Pots: pots(math.MinInt, math.MaxInt)}, api.ErrRange},
		{pool.Shot{Kind: "play", Pots: pots(1, 4, 4)}, api.ErrTwice}, {pool.Shot{Kind: "play", Pots: append(pots(1, 4), pots(2, 5, 4)...)}, api.ErrTwice}, {pool.Shot{Kind: "play", Pots: pots(1, 0, 0)}, api.ErrTwice},
		{pool.Shot{Kind: "play", Pots: pots(1, 4, 4, 16)}, api.ErrTwice}, {pool.Shot{Kind: "play", Pots: pots(1, 4, 16, 4)}, api.ErrRange}, {pool.Shot{Kind: "play", Pots: append(pots(1, 4), pots(7, 4)...)}, api.ErrRange},
	} {
		want(t, fmt.Sprintf("CheckShot of %+v", row.x), all(pool.CheckShot(row.x)), all(row.e))
	}
}

func TestShotsThatAreOnlySaid(t *testing.T) {
	for _, kind := range []string{"pass", "concede"} {
		for _, x := range []pool.Shot{{Ball: 1, Pocket: 1}, {First: 1}, {Cushion: true}, {Pots: pots(1, 0)}} {
			x.Player, x.Kind = 1, kind
			want(t, fmt.Sprintf("CheckShot of %+v", x), all(pool.CheckShot(x)), all(api.ErrForm))
		}
		want(t, "a pocket alone", all(pool.CheckShot(pool.Shot{Kind: kind, Pocket: 1})), all(api.ErrShape))
		want(t, "balls twice", all(pool.CheckShot(pool.Shot{Kind: kind, First: 1, Pots: pots(1, 2, 2)})), all(api.ErrTwice))
		want(t, "an empty list", all(pool.CheckShot(pool.Shot{Kind: kind, Pots: []pool.Pot{}})), all(api.OK))
	}
}

// many returns a log of n shots with others in the place of some.
func many(n int, others map[int]pool.Shot) []pool.Shot {
	l := make([]pool.Shot, n)
	for i := range l {
		l[i] = pool.Shot{Kind: "safety"}
	}
	for i, x := range others {
		l[i] = x
	}
	return l
}

func TestLogs(t *testing.T) {
	nothing, twice := pool.Shot{}, pool.Shot{Kind: "play", Pots: pots(1, 2, 2)}
	for _, row := range []struct {
		what string
		l    []pool.Shot
		e    api.Errno
	}{
		{"no shot", nil, api.OK}, {"1000 shots", many(1000, nil), api.OK}, {"1001 shots", many(1001, nil), api.ErrMany}, {"1001 shots, the first of no kind", many(1001, map[int]pool.Shot{0: nothing}), api.ErrMany},
		{"the last of no kind", many(1000, map[int]pool.Shot{999: nothing}), api.ErrKind}, {"two wrong shots", many(9, map[int]pool.Shot{3: twice, 5: nothing}), api.ErrTwice}, {"two others", many(9, map[int]pool.Shot{5: twice, 3: nothing}), api.ErrKind},
	} {
		want(t, row.what, all(pool.CheckLog(row.l)), all(row.e))
	}
}

func TestStates(t *testing.T) {
	for _, row := range []struct {
		r      pool.Rules
		change func(s *pool.State)
		e      api.Errno
	}{
		{eight(0), func(s *pool.State) { s.Turn, s.Hand, s.Break = 1, true, true }, api.OK}, {eight(0), func(s *pool.State) { s.Turn = 2 }, api.ErrRange}, {eight(0), func(s *pool.State) { s.Turn = -1 }, api.ErrRange},
		{eight(0), func(s *pool.State) { s.Over, s.Winner = true, 1 }, api.OK}, {eight(0), func(s *pool.State) { s.Over, s.Winner = true, 2 }, api.ErrRange}, {eight(0), func(s *pool.State) { s.Winner = -1 }, api.ErrRange}, {eight(0), func(s *pool.State) { s.Winner = 1 }, api.ErrState},
		{eight(0), func(s *pool.State) { s.Group = 2 }, api.OK}, {eight(0), func(s *pool.State) { s.Group = 3 }, api.ErrRange}, {eight(0), func(s *pool.State) { s.Group = -1 }, api.ErrRange}, {nine(0), func(s *pool.State) { s.Group = 1 }, api.ErrRange}, {straight(1, 0), func(s *pool.State) { s.Group = 2 }, api.ErrRange},
		{eight(0), func(s *pool.State) { s.Balls = []int{8} }, api.OK}, {eight(0), func(s *pool.State) { s.Balls = []int{8, 16} }, api.ErrRange}, {eight(0), func(s *pool.State) { s.Balls = []int{0, 8} }, api.ErrRange}, {nine(0), func(s *pool.State) { s.Balls = []int{9, 10} }, api.ErrRange}, {nine(0), func(s *pool.State) { s.Balls = []int{-1, 9} }, api.ErrRange}, {straight(1, 0), func(s *pool.State) { s.Balls = []int{1, 15} }, api.OK},
		{eight(0), func(s *pool.State) { s.Balls = []int{8, 7} }, api.ErrOrder}, {eight(0), func(s *pool.State) { s.Balls = []int{8, 8} }, api.ErrOrder}, {eight(0), func(s *pool.State) { s.Balls = []int{8, 7, 16} }, api.ErrOrder}, {eight(0), func(s *pool.State) { s.Balls = []int{8, 16, 7} }, api.ErrRange}, {eight(0), func(s *pool.State) { s.Balls = make([]int, 100000) }, api.ErrRange},
		{eight(0), func(s *pool.State) { s.Scores = [2]int{99999, -99999} }, api.OK}, {eight(0), func(s *pool.State) { s.Scores[0] = 100000 }, api.ErrRange}, {eight(0), func(s *pool.State) { s.Scores[1] = 100000 }, api.ErrRange}, {eight(0), func(s *pool.State) { s.Scores[0] = -100000 }, api.ErrRange}, {eight(0), func(s *pool.State) { s.Scores[1] = -100000 }, api.ErrRange}, {eight(0), func(s *pool.State) { s.Scores[1] = math.MinInt }, api.ErrRange},
		{eight(0), func(s *pool.State) { s.Fouls = [2]int{99999, 99999} }, api.OK}, {eight(0), func(s *pool.State) { s.Fouls[0] = 100000 }, api.ErrRange}, {eight(0), func(s *pool.State) { s.Fouls[1] = 100000 }, api.ErrRange}, {eight(0), func(s *pool.State) { s.Fouls[0] = -1 }, api.ErrRange}, {eight(0), func(s *pool.State) { s.Fouls[1] = -1 }, api.ErrRange},
		{eight(3), func(s *pool.State) { s.Fouls = [2]int{2, 2} }, api.OK}, {eight(3), func(s *pool.State) { s.Fouls[0] = 3 }, api.ErrRange}, {eight(3), func(s *pool.State) { s.Fouls[1] = 3 }, api.ErrRange}, {eight(3), func(s *pool.State) { s.Fouls[1], s.Over = 3, true }, api.OK}, {eight(3), func(s *pool.State) { s.Fouls[1], s.Over = 4, true }, api.ErrRange}, {straight(1, 3), func(s *pool.State) { s.Fouls[0], s.Over = 3, true }, api.OK}, {eight(0), func(s *pool.State) { s.Fouls[0], s.Over = 100000, true }, api.ErrRange},
		{eight(0), func(s *pool.State) { s.Run = 99999 }, api.OK}, {eight(0), func(s *pool.State) { s.Run = 100000 }, api.ErrRange}, {eight(0), func(s *pool.State) { s.Run = -1 }, api.ErrRange},
		{eight(0), func(s *pool.State) { s.Racks = 1000 }, api.OK}, {eight(0), func(s *pool.State) { s.Racks = 1001 }, api.ErrRange}, {eight(0), func(s *pool.State) { s.Racks = 0 }, api.ErrRange},
		{nine(0), func(s *pool.State) { s.Push = true }, api.OK}, {nine(0), func(s *pool.State) { s.Pushed = true }, api.OK}, {nine(0), func(s *pool.State) { s.Push, s.Pushed = true, true }, api.ErrState}, {nine(0), func(s *pool.State) { s.Push, s.Break = true, true }, api.ErrState}, {nine(0), func(s *pool.State) { s.Pushed, s.Break = true, true }, api.ErrState}, {nine(0), func(s *pool.State) { s.Pushed, s.Break, s.Over = true, true, true }, api.ErrState},
		{eight(0), func(s *pool.State) { s.Push = true }, api.ErrState}, {eight(0), func(s *pool.State) { s.Pushed = true }, api.ErrState}, {straight(1, 0), func(s *pool.State) { s.Push = true }, api.ErrState}, {straight(1, 0), func(s *pool.State) { s.Pushed, s.Over = true, true }, api.ErrState},
		{straight(1, 0), func(s *pool.State) { s.Balls = nil }, api.ErrState}, {straight(1, 0), func(s *pool.State) { s.Balls, s.Over = nil, true }, api.OK}, {straight(1, 0), func(s *pool.State) { s.Balls = []int{4} }, api.OK},
		{eight(0), func(s *pool.State) { s.Balls = upTo(15, 8) }, api.ErrState}, {eight(0), func(s *pool.State) { s.Balls, s.Over = upTo(15, 8), true }, api.OK}, {eight(0), func(s *pool.State) { s.Balls, s.Over = nil, true }, api.OK}, {eight(0), func(s *pool.State) { s.Balls = upTo(15, 9) }, api.OK}, {eight(0), func(s *pool.State) { s.Balls = nil }, api.ErrState},
		{nine(0), func(s *pool.State) { s.Balls = upTo(8) }, api.ErrState}, {nine(0), func(s *pool.State) { s.Balls, s.Over = upTo(8), true }, api.OK}, {nine(0), func(s *pool.State) { s.Balls = []int{9} }, api.OK},
		// The first error of several.
		{eight(1), func(s *pool.State) { s.Balls = []int{8, 7} }, api.ErrRange}, {pool.Rules{Game: "ten"}, func(s *pool.State) { s.Turn = 2 }, api.ErrKind}, {eight(0), func(s *pool.State) { s.Balls, s.Winner = []int{8, 7}, 3 }, api.ErrRange}, {eight(0), func(s *pool.State) { s.Balls, s.Run = []int{8, 7}, -1 }, api.ErrOrder}, {eight(0), func(s *pool.State) { s.Push, s.Racks = true, 0 }, api.ErrRange},
	} {
		s := playing(row.r)
		row.change(&s)
		what := fmt.Sprintf("%+v: %+v", row.r, s)
		want(t, "CheckState of "+what, all(pool.CheckState(row.r, s)), all(row.e))
		wantError(t, "Targets of "+what, all(pool.Targets(row.r, s)), row.e)
	}
	for _, r := range games() {
		want(t, fmt.Sprintf("CheckState at the beginning of %+v", r), all(pool.CheckState(r, begun(r))), all(api.OK))
	}
	want(t, "no state", all(pool.CheckState(eight(0), pool.State{})), all(api.ErrRange))
}
