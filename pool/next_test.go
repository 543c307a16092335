package pool_test

import (
	"fmt"
	"testing"

	"baulk/api"
	"baulk/pool"
)

// Tests of P5.3 (successors).

// wantNext compares the state after some shots, of which the last one is tested, with the wanted one.
func wantNext(t *testing.T, r pool.Rules, s pool.State, notation string, wanted pool.State) {
	t.Helper()
	what := fmt.Sprintf("Next of %q in %+v: %+v", notation, r, s)
	want(t, what, all(pool.Next(r, s, shot(t, notation))), all(wanted, api.OK))
}

func TestEightBallExample(t *testing.T) {
	r := eight(0)
	s := begun(r)
	first := pool.State{Balls: upTo(15, 9), Scores: [2]int{1, 0}, Run: 1, Racks: 1}
	wantNext(t, r, s, "a break f3 + p9/2", first)
	second := pool.State{Group: 2, Balls: upTo(15, 9, 10), Scores: [2]int{2, 0}, Run: 2, Racks: 1}
	wantNext(t, r, first, "a play c10/1 f10 p10/1", second)
	third := pool.State{Turn: 1, Hand: true, Group: 2, Balls: upTo(15, 9, 10, 11), Scores: [2]int{2, 0}, Fouls: [2]int{1, 0}, Racks: 1}
	wantNext(t, r, second, "a play c11/4 f3 + p11/4", third)
	want(t, "Targets", all(pool.Targets(r, third)), all(upTo(7), api.OK))
	wantNext(t, r, third, "b play c8/1 f1 p8/1", pool.State{Turn: 1, Group: 2, Balls: upTo(15, 8, 9, 10, 11), Scores: [2]int{2, 1}, Fouls: [2]int{1, 0}, Run: 1, Racks: 1, Over: true, Winner: 0})
	wantNext(t, r, third, "b safety f1 +", pool.State{Group: 2, Balls: upTo(15, 9, 10, 11), Scores: [2]int{2, 0}, Fouls: [2]int{1, 0}, Racks: 1})
}

func TestNineBallExamples(t *testing.T) {
	r := nine(3)
	s := begun(r)
	first := pool.State{Push: true, Balls: upTo(9, 4), Scores: [2]int{1, 0}, Run: 1, Racks: 1}
	wantNext(t, r, s, "a break f1 + p4/1", first)
	second := pool.State{Turn: 1, Pushed: true, Balls: upTo(9, 4), Scores: [2]int{1, 0}, Racks: 1}
	wantNext(t, r, first, "a push f9", second)
	third := pool.State{Balls: upTo(9, 4), Scores: [2]int{1, 0}, Racks: 1}
	wantNext(t, r, second, "b pass", third)
	wantNext(t, r, third, "a play f1 p1/2 p9/3", pool.State{Balls: upTo(8, 1, 4), Scores: [2]int{3, 0}, Run: 2, Racks: 1, Over: true, Winner: 0})
	s = pool.State{Turn: 1, Push: true, Balls: upTo(9), Racks: 1}
	wantNext(t, nine(0), begun(nine(0)), "a break f1 +", s)
	s.Fouls[1], s.Turn, s.Push, s.Hand = 1, 0, false, true
	wantNext(t, nine(0), played(t, nine(0), "a break f1 +"), "b play f2 +", s)
	want(t, "Targets", all(pool.Targets(nine(0), s)), all([]int{1}, api.OK))
}

func TestStraightPoolExamples(t *testing.T) {
	r := straight(2, 2)
	s := played(t, r, "a break f1 +", "b play c5/2 f5 p5/2")
	want(t, "after two shots", all(s), all(pool.State{Turn: 1, Balls: upTo(15, 5), Scores: [2]int{0, 1}, Run: 1, Racks: 1}))
	wantNext(t, r, s, "b play c6/1 f6 p6/1 p7/2", pool.State{Turn: 1, Balls: upTo(15, 5, 6, 7), Scores: [2]int{0, 3}, Run: 3, Racks: 1, Over: true, Winner: 1})
	wantNext(t, r, s, "b play c6/1 f6 p6/1 p7/2 p0/3", pool.State{Hand: true, Balls: upTo(15, 5), Fouls: [2]int{0, 1}, Racks: 1})
	first := pool.State{Turn: 1, Balls: upTo(15), Scores: [2]int{-1, 0}, Fouls: [2]int{1, 0}, Racks: 1}
	wantNext(t, r, begun(r), "a break", first)
	second := first
	second.Turn = 0
	wantNext(t, r, first, "b safety f1 +", second)
	wantNext(t, r, second, "a safety f1", pool.State{Break: true, Balls: upTo(15), Scores: [2]int{-17, 0}, Racks: 2})
}

func TestConcessions(t *testing.T) {
	r := nine(3)
	s := pool.State{Turn: 1, Hand: true, Push: true, Balls: upTo(9, 4), Scores: [2]int{7, 2}, Fouls: [2]int{1, 2}, Run: 2, Racks: 1}
	for _, row := range []struct {
		shot   string
		winner int
	}{{"a concede", 1}, {"b concede", 0}} {
		wanted := s
		wanted.Over, wanted.Winner = true, row.winner
		wantNext(t, r, s, row.shot, wanted)
	}
	wanted := begun(straight(9, 0))
	wanted.Over, wanted.Winner = true, 1
	wantNext(t, straight(9, 0), begun(straight(9, 0)), "a concede", wanted)
}

func TestPasses(t *testing.T) {
	s := pool.State{Turn: 1, Hand: true, Pushed: true, Balls: upTo(9), Scores: [2]int{7, 2}, Fouls: [2]int{1, 2}, Run: 5, Racks: 1}
	wanted := s
	wanted.Turn, wanted.Hand, wanted.Pushed, wanted.Run = 0, false, false, 0
	wantNext(t, nine(3), s, "b pass", wanted)
}

func TestPushes(t *testing.T) {
	r := nine(3)
	s := pool.State{Turn: 1, Hand: true, Push: true, Balls: upTo(9, 4), Scores: [2]int{7, 2}, Fouls: [2]int{1, 1}, Run: 5, Racks: 1}
	safe := pool.State{Pushed: true, Balls: upTo(9, 4, 5), Scores: [2]int{7, 2}, Fouls: [2]int{1, 0}, Racks: 1}
	wantNext(t, r, s, "b push f7 p5/1 p9/2", safe)
	foul := pool.State{Hand: true, Pushed: true, Balls: upTo(9, 4, 5), Scores: [2]int{7, 2}, Fouls: [2]int{1, 2}, Racks: 1}
	wantNext(t, r, s, "b push f7 p5/1 p0/2", foul)
	s.Fouls[1] = 2
	lost := pool.State{Turn: 1, Pushed: true, Balls: upTo(9, 4), Scores: [2]int{7, 2}, Fouls: [2]int{1, 3}, Racks: 1, Over: true, Winner: 0}
	wantNext(t, r, s, "b push +", lost)
}

func TestBalls(t *testing.T) {
	for _, row := range []struct {
		r     pool.Rules
		s     pool.State
		shot  string
		balls []int
	}{
		// Straight pool: what a good shot has pocketed, called or not.
		{straight(99, 0), begun(straight(99, 0)), "a break f1 + p1/1 p2/1", upTo(15)}, {straight(99, 0), playing(straight(99, 0)), "a play c1/1 f2 p1/1 p2/1", upTo(15, 1, 2)}, {straight(99, 0), playing(straight(99, 0)), "a play c1/1 f2 p1/2 p2/1", upTo(15)}, {straight(99, 0), playing(straight(99, 0)), "a play c1/1 f2 p1/1 p2/1 p0/1", upTo(15)}, {straight(99, 0), playing(straight(99, 0)), "a safety f2 p1/1 p2/1", upTo(15)}, {straight(99, 0), playing(straight(99, 0), func(s *pool.State) { s.Balls = []int{3, 5, 7} }), "a play c3/6 f3 +", []int{3, 5, 7}},
		// Eight ball: all, but the ball 8 of a break.
		{eight(0), begun(eight(0)), "a break f1 p1/1 p8/2 p15/3", upTo(14, 1)}, {eight(0), begun(eight(0)), "a break f1 p1/1 p8/2 p0/3", upTo(15, 1)}, {eight(0), playing(eight(0)), "a play c3/1 f1 p4/1 p5/1", upTo(15, 4, 5)}, {eight(0), playing(eight(0)), "a play c3/1 f8 p3/1 p0/1", upTo(15, 3)}, {eight(0), playing(eight(0)), "a safety f1 p9/1", upTo(15, 9)}, {eight(0), playing(eight(0)), "a safety f1 p8/1", upTo(15, 8)}, {eight(0), playing(eight(0)), "a play c8/1 f1 p8/1 p1/1 p0/1", upTo(15, 1, 8)},
		// Nine ball: all, but the ball 9 of a shot that is not good.
		{nine(0), begun(nine(0)), "a break f1 p1/1 p9/2", upTo(8, 1)}, {nine(0), begun(nine(0)), "a break f2 p1/1 p9/2", upTo(9, 1)}, {nine(0), begun(nine(0)), "a break f1 p0/1 p9/2", upTo(9)}, {nine(0), playing(nine(0)), "a play f1 p4/1 p9/2", upTo(8, 4)}, {nine(0), playing(nine(0)), "a play f2 p4/1 p9/2", upTo(9, 4)}, {nine(0), playing(nine(0)), "a safety f1 p4/1 p9/2", upTo(9, 4)},
	} {
		s, e := pool.Next(row.r, row.s, shot(t, row.shot))
		want(t, fmt.Sprintf("the balls after %q in %+v: %+v", row.shot, row.r, row.s), all(s.Balls, e), all(row.balls, api.OK))
	}
}

func TestPointsAndTurns(t *testing.T) {
	for _, row := range []struct {
		r      pool.Rules
		isDue  bool
		shot   string
		points int
		turn   int
		run    int
	}{
		{straight(99, 0), true, "a break f1 p1/1", 0, 1, 0}, {straight(99, 0), false, "a play c1/1 f1 p1/1 p2/2 p3/3", 3, 0, 7}, {straight(99, 0), false, "a play c1/1 f1 p1/2", 0, 1, 0}, {straight(99, 0), false, "a play c1/1 f1 p2/1", 0, 1, 0}, {straight(99, 0), false, "a play c1/1 f1 p1/1 p0/1", -1, 1, 0}, {straight(99, 0), false, "a safety f1 p1/1", 0, 1, 0},
		{eight(0), true, "a break f8 p8/1", 1, 0, 5}, {eight(0), true, "a break f8 p1/1 p9/1", 2, 0, 6}, {eight(0), true, "a break f8 +", 0, 1, 0}, {eight(0), true, "a break f8", 0, 1, 0}, {eight(0), true, "a break f8 p1/1 p0/2", 0, 1, 0}, {eight(0), false, "a play c9/3 f1 p9/3 p1/3", 2, 0, 6}, {eight(0), false, "a play c9/3 f1 p9/2 p1/3", 0, 1, 0}, {eight(0), false, "a safety f1 p9/2 p1/3", 0, 1, 0},
		{nine(0), true, "a break f1 p2/1 p3/1", 2, 0, 6}, {nine(0), true, "a break f1 +", 0, 1, 0}, {nine(0), true, "a break f2 p2/1", 0, 1, 0}, {nine(0), false, "a play f1 p2/1", 1, 0, 5}, {nine(0), false, "a play f1 +", 0, 1, 0}, {nine(0), false, "a play f2 p2/1", 0, 1, 0}, {nine(0), false, "a safety f1 p2/1", 0, 1, 0},
		// A frame that is over stays the turn of its last player; the run of a shot without a foul stays.
		{eight(0), false, "a safety f1 p8/1", 0, 0, 4}, {eight(0), false, "a play c8/1 f1 p8/1", 1, 0, 5}, {eight(0), false, "a play c8/1 f1 p8/1 p0/1", 0, 0, 0}, {nine(0), false, "a play f1 p9/1", 1, 0, 5},
	} {
		s := playing(row.r, func(s *pool.State) { s.Break, s.Scores, s.Run = row.isDue, [2]int{20, 30}, 4 })
		s, e := pool.Next(row.r, s, shot(t, row.shot))
		what := fmt.Sprintf("the scores, the turn and the run after %q in %+v", row.shot, row.r)
		want(t, what, all(s.Scores, s.Turn, s.Run, e), all([2]int{20 + row.points, 30}, row.turn, row.run, api.OK))
	}
}

func TestFoulsAndHands(t *testing.T) {
	for _, row := range []struct {
		r     pool.Rules
		shot  string
		fouls int
		hand  bool
	}{
		{straight(99, 0), "a safety f1 +", 0, false}, {straight(99, 0), "a play c1/1 f1 p1/1", 0, false}, {straight(99, 0), "a safety f1 p0/1", 3, true}, {straight(99, 0), "a safety", 3, false}, {straight(99, 0), "a safety f1", 3, false},
		{eight(0), "a safety f1 +", 0, false}, {eight(0), "a play c1/1 f1 p1/1", 0, false}, {eight(0), "a safety f1 p0/1", 3, true}, {eight(0), "a safety", 3, true}, {eight(0), "a safety f8", 3, true}, {eight(0), "a safety f1", 3, true}, {eight(0), "a safety f1 p8/1", 0, false}, {eight(0), "a safety f8 p8/1", 3, false},
		{nine(0), "a safety f1 +", 0, false}, {nine(0), "a play f1 p1/1", 0, false}, {nine(0), "a safety p0/1", 3, true}, {nine(0), "a safety", 3, true}, {nine(0), "a safety f2", 3, true}, {nine(0), "a safety f1", 3, true},
	} {
		s := playing(row.r, func(s *pool.State) { s.Hand, s.Fouls = true, [2]int{2, 5} })
		s, e := pool.Next(row.r, s, shot(t, row.shot))
		what := fmt.Sprintf("the fouls and the hand after %q in %+v", row.shot, row.r)
		want(t, what, all(s.Fouls, s.Hand, e), all([2]int{row.fouls, 5}, row.hand, api.OK))
	}
}

func TestLimitOfFouls(t *testing.T) {
	used := func(r pool.Rules) pool.State {
		return pool.State{Turn: 1, Hand: true, Balls: upTo(9, 2), Scores: [2]int{3, 40}, Fouls: [2]int{1, 2}, Run: 6, Racks: 4}
	}
	r := straight(99, 3)
	wantNext(t, r, used(r), "b safety f1 p0/1", pool.State{Turn: 1, Break: true, Balls: upTo(15), Scores: [2]int{3, 24}, Fouls: [2]int{1, 0}, Racks: 5})
	wantNext(t, straight(99, 4), used(r), "b safety f1 p0/1", pool.State{Hand: true, Balls: upTo(9, 2), Scores: [2]int{3, 39}, Fouls: [2]int{1, 3}, Racks: 4})
	wantNext(t, straight(99, 0), used(r), "b safety f1", pool.State{Balls: upTo(9, 2), Scores: [2]int{3, 39}, Fouls: [2]int{1, 3}, Racks: 4})
	for _, r := range []pool.Rules{eight(3), nine(3)} {
		wantNext(t, r, used(r), "b safety f1", pool.State{Turn: 1, Balls: upTo(9, 2), Scores: [2]int{3, 40}, Fouls: [2]int{1, 3}, Racks: 4, Over: true, Winner: 0})
		wantNext(t, r, used(r), "b safety f1 +", pool.State{Balls: upTo(9, 2), Scores: [2]int{3, 40}, Fouls: [2]int{1, 0}, Racks: 4})
	}
	// The ball 8 ends the frame before the limit does; both are lost.
	wantNext(t, eight(3), used(eight(3)), "b safety f1 p8/1 p0/1", pool.State{Turn: 1, Balls: []int{1, 3, 4, 5, 6, 7, 9}, Scores: [2]int{3, 40}, Fouls: [2]int{1, 3}, Racks: 4, Over: true, Winner: 0})
	// A break can reach the limit, too; what it permits in nine ball is as after every break.
	due := changedBy(used(nine(3)), func(s *pool.State) { s.Break = true })
	wantNext(t, nine(3), due, "b break", pool.State{Turn: 1, Push: true, Balls: upTo(9, 2), Scores: [2]int{3, 40}, Fouls: [2]int{1, 3}, Racks: 4, Over: true, Winner: 0})
	wantNext(t, straight(99, 3), due, "b break", pool.State{Turn: 1, Break: true, Balls: upTo(15), Scores: [2]int{3, 24}, Fouls: [2]int{1, 0}, Racks: 5})
}

func TestEnds(t *testing.T) {
	group := func(group int, balls ...int) pool.State { return pool.State{Racks: 1, Group: group, Balls: balls} }
	near := func(score int) pool.State {
		return pool.State{Racks: 1, Balls: []int{1, 2, 3, 4}, Scores: [2]int{score, 50}}
	}
	const goesOn = -1
	for _, row := range []struct {
		r      pool.Rules
		s      pool.State
		shot   string
		winner int
	}{
		{straight(9, 0), near(7), "a play c1/1 f1 p1/1", goesOn}, {straight(9, 0), near(8), "a play c1/1 f1 p1/1", 0}, {straight(9, 0), near(7), "a play c1/1 f1 p1/1 p2/1 p3/1", 0}, {straight(9, 0), near(8), "a play c1/1 f1 p1/2", goesOn}, {straight(9, 0), near(9), "a safety f1 +", goesOn}, {straight(9, 0), near(9), "a play c1/1 f1 p1/1", 0}, {straight(9, 0), near(8), "a play c1/1 f1 p1/1 p2/1 p3/1 p4/1", 0},
		{eight(0), begun(eight(0)), "a break f1 p8/1", goesOn}, {eight(0), begun(eight(0)), "a break p0/1", goesOn},
		{eight(0), group(1, 8, 9), "a play c8/1 f8 p8/1", 0}, {eight(0), group(1, 8, 9), "a play c8/1 f8 p8/1 p9/1", 0}, {eight(0), group(1, 8, 9), "a play c8/1 f8 p8/2", 1}, {eight(0), group(1, 8, 9), "a play c8/1 f9 p8/1", 1}, {eight(0), group(1, 8, 9), "a play c8/1 f8 p8/1 p0/1", 1}, {eight(0), group(1, 8, 9), "a play c9/1 f8 p8/1 p9/1", 1}, {eight(0), group(1, 8, 9), "a safety f8 p8/1", 1}, {eight(0), group(1, 8, 9), "a play c8/1 f8 +", goesOn}, {eight(0), group(1, 8, 9), "a play c9/1 f8 p9/1", goesOn},
		{eight(0), group(1, 7, 8, 9), "a play c8/1 f7 p8/1", 1}, {eight(0), group(1, 7, 8, 9), "a play c7/1 f7 p7/1 p8/1", 1}, {eight(0), group(2, 7, 8), "a play c8/1 f8 p8/1", 0}, {eight(0), group(2, 7, 8), "a play c8/1 f7 p8/1", 1}, {eight(0), group(0, 7, 8), "a play c8/1 f7 p8/1", 1}, {eight(0), group(0, 8), "a play c8/1 f8 p8/1", 0}, {eight(0), group(2, 8, 9), "a play c8/1 f9 p8/1 p9/1", 1},
		{nine(0), begun(nine(0)), "a break f1 p9/1", 0}, {nine(0), begun(nine(0)), "a break f2 p9/1", goesOn}, {nine(0), group(0, 4, 9), "a play f4 p9/1", 0}, {nine(0), group(0, 4, 9), "a play f4 p4/1 p9/1", 0}, {nine(0), group(0, 4, 9), "a play f9 p9/1", goesOn}, {nine(0), group(0, 4, 9), "a safety f4 p9/1", goesOn}, {nine(0), group(0, 9), "a play f9 p9/1", 0}, {nine(0), group(0, 4, 9), "a play f4 p4/1", goesOn},
	} {
		s, e := pool.Next(row.r, row.s, shot(t, row.shot))
		what := fmt.Sprintf("the end after %q in %+v: %+v", row.shot, row.r, row.s)
		want(t, what, all(s.Over, s.Winner, e), all(row.winner != goesOn, max(row.winner, 0), api.OK))
	}
	// The other player, too, wins and loses.
	other := func(s *pool.State) { s.Turn = 1 }
	s, _ := pool.Next(eight(0), changedBy(group(1, 7, 8), other), shot(t, "b play c8/1 f8 p8/1"))
	want(t, "the end for player 1", all(s.Over, s.Winner), all(true, 1))
	s, _ = pool.Next(eight(0), changedBy(group(1, 7, 8), other), shot(t, "b play c8/2 f8 p8/1"))
	want(t, "the end for player 1", all(s.Over, s.Winner), all(true, 0))
	s, _ = pool.Next(nine(0), changedBy(group(0, 9), other), shot(t, "b play f9 p9/1"))
	want(t, "the end for player 1", all(s.Over, s.Winner), all(true, 1))
}

func TestGroups(t *testing.T) {
	for _, row := range []struct {
		turn, before int
		isDue        bool
		shot         string
		group        int
	}{
		{0, 0, false, " play c1/1 f9 p1/1", 1}, {0, 0, false, " play c7/1 f9 p7/1", 1}, {0, 0, false, " play c9/1 f1 p9/1 p1/1", 2}, {0, 0, false, " play c15/1 f1 p15/1", 2}, {1, 0, false, " play c1/1 f9 p1/1", 2}, {1, 0, false, " play c7/1 f9 p7/1", 2}, {1, 0, false, " play c9/1 f1 p9/1 p1/1", 1}, {1, 0, false, " play c15/1 f1 p15/1", 1},
		{0, 0, true, " break f1 p1/1", 0}, {0, 0, false, " play c1/1 f9 p1/2", 0}, {0, 0, false, " play c1/1 f9 p9/1", 0}, {0, 0, false, " play c1/1 f8 p1/1", 0}, {0, 0, false, " play c1/1 f1 p1/1 p0/1", 0}, {0, 0, false, " safety f1 p1/1", 0}, {0, 0, false, " play c1/1 f1 p1/1 p8/1", 0}, {0, 0, false, " play c8/1 f1 p8/1 p1/1", 0},
		{0, 1, false, " play c9/1 f1 p9/1", 1}, {0, 2, false, " play c1/1 f9 p1/1", 2}, {1, 1, false, " play c1/1 f9 p1/1", 1},
	} {
		s := playing(eight(0), func(s *pool.State) { s.Turn, s.Group, s.Break = row.turn, row.before, row.isDue })
		notation := "ab"[row.turn:row.turn+1] + row.shot
		s, e := pool.Next(eight(0), s, shot(t, notation))
		want(t, fmt.Sprintf("the group after %q with %d", notation, row.before), all(s.Group, e), all(row.group, api.OK))
	}
}

func TestRacks(t *testing.T) {
	few := func(balls ...int) pool.State { return pool.State{Racks: 7, Balls: balls} }
	for _, row := range []struct {
		r     pool.Rules
		s     pool.State
		shot  string
		balls []int
		racks int
	}{
		{straight(99, 0), few(3, 5, 8), "a play c3/1 f3 p3/1", []int{5, 8}, 7}, {straight(99, 0), few(5, 8), "a play c5/1 f5 p5/1", upTo(15), 8}, {straight(99, 0), few(5, 8), "a play c5/1 f5 p5/1 p8/1", upTo(15), 8}, {straight(99, 0), few(5), "a play c5/1 f5 p5/1", upTo(15), 8}, {straight(99, 0), few(5), "a safety f5 +", []int{5}, 7}, {straight(99, 0), few(5), "a play c5/1 f5 p5/2", []int{5}, 7}, {straight(99, 0), few(5, 8), "a play c5/1 f5 p5/1 p0/1", []int{5, 8}, 7}, {straight(1, 0), few(5, 8), "a play c5/1 f5 p5/1", []int{8}, 7},
		{eight(0), few(5, 8), "a play c5/1 f5 p5/1", []int{8}, 7}, {nine(0), few(5, 9), "a play f5 p5/1", []int{9}, 7},
	} {
		s, e := pool.Next(row.r, row.s, shot(t, row.shot))
		what := fmt.Sprintf("the rack after %q in %+v: %+v", row.shot, row.r, row.s)
		want(t, what, all(s.Balls, s.Racks, s.Break, e), all(row.balls, row.racks, false, api.OK))
	}
}

func TestErrorsOfNext(t *testing.T) {
	for _, row := range []struct {
		r      pool.Rules
		change func(s *pool.State)
		shot   string
		e      api.Errno
	}{
		{eight(0), func(s *pool.State) { s.Scores[0] = 99998 }, "a play c1/1 f1 p1/1", api.OK}, {eight(0), func(s *pool.State) { s.Scores[0] = 99998 }, "a play c1/1 f1 p1/1 p2/1", api.ErrRange}, {eight(0), func(s *pool.State) { s.Scores[0] = 99999 }, "a play c1/1 f1 p1/1", api.ErrRange}, {eight(0), func(s *pool.State) { s.Scores[0] = 99999 }, "a safety f1", api.OK}, {eight(0), func(s *pool.State) { s.Scores[1] = 99999 }, "a play c1/1 f1 p1/1", api.OK}, {eight(0), func(s *pool.State) { s.Scores[1], s.Turn = 99999, 1 }, "b play c1/1 f1 p1/1", api.ErrRange},
		{straight(9, 0), func(s *pool.State) { s.Scores[0] = -99998 }, "a safety f1", api.OK}, {straight(9, 0), func(s *pool.State) { s.Scores[0] = -99999 }, "a safety f1", api.ErrRange}, {straight(9, 2), func(s *pool.State) { s.Scores[0], s.Fouls[0] = -99984, 1 }, "a safety f1", api.ErrRange}, {straight(9, 2), func(s *pool.State) { s.Scores[0], s.Fouls[0] = -99983, 1 }, "a safety f1", api.OK}, {straight(9, 0), func(s *pool.State) { s.Scores[0] = 99999 }, "a play c1/1 f1 p1/1", api.ErrRange},
		{eight(0), func(s *pool.State) { s.Fouls[0] = 99998 }, "a safety f1", api.OK}, {eight(0), func(s *pool.State) { s.Fouls[0] = 99999 }, "a safety f1", api.ErrRange}, {eight(0), func(s *pool.State) { s.Fouls[0] = 99999 }, "a safety f1 +", api.OK}, {eight(0), func(s *pool.State) { s.Fouls[1], s.Turn = 99999, 1 }, "b safety f1", api.ErrRange}, {nine(0), func(s *pool.State) { s.Fouls[0], s.Pushed = 99999, true }, "a pass", api.OK}, {nine(2), func(s *pool.State) { s.Fouls[0] = 1 }, "a safety f1", api.OK},
		{eight(0), func(s *pool.State) { s.Run = 99998 }, "a play c1/1 f1 p1/1", api.OK}, {eight(0), func(s *pool.State) { s.Run = 99999 }, "a play c1/1 f1 p1/1", api.ErrRange}, {eight(0), func(s *pool.State) { s.Run = 99999 }, "a safety f1 +", api.OK}, {eight(0), func(s *pool.State) { s.Run = 99999 }, "b concede", api.OK},
		{straight(9, 0), func(s *pool.State) { s.Racks, s.Balls = 999, []int{1, 2} }, "a play c1/1 f1 p1/1", api.OK}, {straight(9, 0), func(s *pool.State) { s.Racks, s.Balls = 1000, []int{1, 2} }, "a play c1/1 f1 p1/1", api.ErrRange}, {straight(9, 2), func(s *pool.State) { s.Racks, s.Fouls[0] = 1000, 1 }, "a safety f1", api.ErrRange}, {straight(9, 0), func(s *pool.State) { s.Racks = 1000 }, "a safety f1", api.OK},
		{eight(0), func(s *pool.State) { s.Run = 99999 }, "b play c1/1 f1 p1/1", api.ErrRule},
	} {
		s := playing(row.r, row.change)
		what := fmt.Sprintf("Next of %q in %+v: %+v", row.shot, row.r, s)
		wantError(t, what, all(pool.Next(row.r, s, shot(t, row.shot))), row.e)
	}
}
