package pool_test

import (
	"fmt"
	"testing"

	"baulk/api"
	"baulk/pool"
)

// Tests of P5.2 (rules).

func TestTargets(t *testing.T) {
	for _, row := range []struct {
		r       pool.Rules
		s       pool.State
		targets []int
	}{
		{straight(1, 0), begun(straight(1, 0)), upTo(15)}, {straight(1, 0), pool.State{Racks: 1, Balls: []int{4, 8}}, []int{4, 8}}, {straight(1, 0), pool.State{Racks: 1, Over: true}, nil},
		{nine(0), begun(nine(0)), []int{1}}, {nine(0), pool.State{Racks: 1, Balls: []int{3, 5, 9}}, []int{3}}, {nine(0), pool.State{Racks: 1, Balls: []int{9}}, []int{9}}, {nine(0), pool.State{Racks: 1, Over: true}, nil}, {nine(0), pool.State{Racks: 1, Over: true, Balls: []int{7, 8}}, []int{7}},
		{eight(0), begun(eight(0)), upTo(15)}, {eight(0), pool.State{Racks: 1, Break: true, Balls: []int{2, 8}, Group: 1}, []int{2, 8}}, {eight(0), pool.State{Racks: 1, Break: true, Over: true}, nil},
		{eight(0), playing(eight(0)), upTo(15, 8)}, {eight(0), pool.State{Racks: 1, Balls: []int{8}}, []int{8}}, {eight(0), pool.State{Racks: 1, Balls: []int{8, 9}}, []int{9}}, {eight(0), pool.State{Racks: 1, Over: true}, nil}, {eight(0), pool.State{Racks: 1, Over: true, Balls: []int{7, 9}}, []int{7, 9}},
		{eight(0), pool.State{Racks: 1, Balls: []int{1, 7, 8, 9, 15}, Group: 1}, []int{1, 7}}, {eight(0), pool.State{Racks: 1, Balls: []int{1, 7, 8, 9, 15}, Group: 2}, []int{9, 15}}, {eight(0), pool.State{Racks: 1, Balls: []int{1, 7, 8, 9, 15}, Group: 1, Turn: 1}, []int{9, 15}}, {eight(0), pool.State{Racks: 1, Balls: []int{1, 7, 8, 9, 15}, Group: 2, Turn: 1}, []int{1, 7}},
		{eight(0), pool.State{Racks: 1, Balls: []int{8, 9}, Group: 1}, []int{8}}, {eight(0), pool.State{Racks: 1, Balls: []int{7, 8}, Group: 1, Turn: 1}, []int{8}}, {eight(0), pool.State{Racks: 1, Balls: []int{9}, Group: 1, Over: true}, nil},
	} {
		want(t, fmt.Sprintf("Targets of %s: %+v", row.r.Game, row.s), all(pool.Targets(row.r, row.s)), all(row.targets, api.OK))
	}
}

// someOn returns a state of a game with some balls on the table.
func someOn(balls ...int) pool.State { return pool.State{Racks: 1, Balls: balls} }

// changedBy returns a state after a change.
func changedBy(s pool.State, change func(s *pool.State)) pool.State {
	change(&s)
	return s
}

func TestRefusals(t *testing.T) {
	over := func(s *pool.State) { s.Over = true }
	for _, row := range []struct {
		r    pool.Rules
		s    pool.State
		shot string
		rule int
	}{
		// 1: the frame is over.
		{eight(0), playing(eight(0), over), "a safety", 1}, {eight(0), playing(eight(0), over), "b safety", 1}, {eight(0), playing(eight(0), over), "a concede", 1}, {nine(0), playing(nine(0), over), "a break c1/1 p9/1", 1},
		// 2: it is not the turn of the player, who may concede.
		{eight(0), playing(eight(0)), "b safety", 2}, {eight(0), playing(eight(0)), "b break", 2}, {eight(0), playing(eight(0)), "b push", 2}, {eight(0), playing(eight(0)), "b pass", 2}, {eight(0), playing(eight(0)), "b play", 2}, {eight(0), playing(eight(0)), "b concede", 0}, {eight(0), playing(eight(0)), "a concede", 0}, {eight(0), begun(eight(0)), "b concede", 0}, {eight(0), begun(eight(0)), "a concede", 0},
		{eight(0), playing(eight(0), func(s *pool.State) { s.Turn = 1 }), "b safety", 0}, {eight(0), playing(eight(0), func(s *pool.State) { s.Turn = 1 }), "a safety", 2},
		// 3: a break is due, or not.
		{eight(0), begun(eight(0)), "a break", 0}, {eight(0), begun(eight(0)), "a play c1/1", 3}, {eight(0), begun(eight(0)), "a safety", 3}, {nine(0), begun(nine(0)), "a push", 3}, {nine(0), begun(nine(0)), "a pass", 3}, {straight(1, 0), begun(straight(1, 0)), "a play c1/1", 3},
		{eight(0), playing(eight(0)), "a break", 3}, {straight(1, 0), playing(straight(1, 0)), "a break c1/1", 3}, {nine(0), playing(nine(0)), "a break", 3},
		// 4: a push and a pass.
		{nine(0), playing(nine(0), func(s *pool.State) { s.Push = true }), "a push", 0}, {nine(0), playing(nine(0), func(s *pool.State) { s.Push = true }), "a pass", 4}, {nine(0), playing(nine(0), func(s *pool.State) { s.Pushed = true }), "a push", 4}, {nine(0), playing(nine(0), func(s *pool.State) { s.Pushed = true }), "a pass", 0}, {nine(0), playing(nine(0)), "a push", 4}, {nine(0), playing(nine(0)), "a pass", 4}, {eight(0), playing(eight(0)), "a push c1/1", 4}, {straight(1, 0), playing(straight(1, 0)), "a pass", 4}, {nine(0), playing(nine(0), func(s *pool.State) { s.Pushed = true }), "a play f1", 0}, {nine(0), playing(nine(0), func(s *pool.State) { s.Push = true }), "a safety f1", 0},
		// 5: what is called.
		{eight(0), someOn(4, 8), "a play c4/1", 0}, {eight(0), someOn(4, 8), "a play c8/1", 0}, {eight(0), someOn(4, 8), "a play c5/1", 5}, {eight(0), someOn(4, 8), "a play", 5}, {straight(1, 0), someOn(4, 8), "a play c8/1", 0}, {straight(1, 0), someOn(4, 8), "a play c5/1", 5}, {straight(1, 0), someOn(4, 8), "a play f8 p8/1", 5}, {nine(0), someOn(4, 9), "a play c4/1", 5}, {nine(0), someOn(4, 9), "a play", 0},
		{eight(0), someOn(4, 8), "a safety c4/1", 5}, {straight(1, 0), someOn(4, 8), "a safety c4/1", 5}, {eight(0), begun(eight(0)), "a break c4/1", 5}, {straight(1, 0), begun(straight(1, 0)), "a break c4/1", 5}, {nine(0), playing(nine(0), func(s *pool.State) { s.Push = true }), "a push c4/1", 5},
		// 6: what was hit first.
		{eight(0), someOn(4, 8), "a safety f4", 0}, {eight(0), someOn(4, 8), "a safety f5", 6}, {eight(0), someOn(4, 8), "a play c4/1 f15 p4/1", 6}, {nine(0), begun(nine(0)), "a break f10", 6}, {nine(0), playing(nine(0), func(s *pool.State) { s.Push = true }), "a push f15", 6}, {straight(1, 0), someOn(4, 8), "a play c4/1 f5 p5/1", 6},
		// 7: what was pocketed.
		{eight(0), someOn(4, 8), "a safety f4 p4/1 p8/1", 0}, {eight(0), someOn(4, 8), "a safety f4 p4/1 p5/1", 7}, {eight(0), someOn(4, 8), "a safety f4 p5/1 p4/1", 7}, {eight(0), someOn(4, 8), "a safety p4/1", 7}, {eight(0), someOn(4, 8), "a safety p0/1", 0}, {eight(0), someOn(4, 8), "a safety p0/1 p4/1", 7}, {nine(0), begun(nine(0)), "a break f1 p10/1", 7}, {nine(0), begun(nine(0)), "a break p9/1", 7}, {straight(1, 0), someOn(4, 8), "a play c4/1 + p4/1", 7},
		// The least of several.
		{eight(0), playing(eight(0), over), "b break c1/1 p1/1", 1}, {eight(0), playing(eight(0)), "b break c1/1 p1/1", 2}, {eight(0), begun(eight(0)), "a push c1/1 p1/1", 3}, {eight(0), someOn(8), "a push c1/1 f1 p1/1", 4}, {eight(0), someOn(8), "a safety c1/1 f1 p1/1", 5}, {eight(0), someOn(8), "a safety f1 p1/1", 6},
	} {
		what := fmt.Sprintf("of %q in %s: %+v", row.shot, row.r.Game, row.s)
		x := shot(t, row.shot)
		want(t, "Legal "+what, all(pool.Legal(row.r, row.s, x)), all(row.rule, api.OK))
		e := api.OK
		if row.rule != 0 {
			e = api.ErrRule
		}
		wantError(t, "Foul "+what, all(pool.Foul(row.r, row.s, x)), e)
		wantError(t, "Next "+what, all(pool.Next(row.r, row.s, x)), e)
	}
}

func TestFouls(t *testing.T) {
	push := func(s *pool.State) { s.Push = true }
	for _, row := range []struct {
		r    pool.Rules
		s    pool.State
		shot string
		foul int
	}{
		// 1: the cue ball.
		{eight(0), begun(eight(0)), "a break f1 + p0/1", 1}, {eight(0), playing(eight(0)), "a play c1/1 f1 + p1/1 p0/6", 1}, {eight(0), playing(eight(0)), "a safety p0/1", 1}, {nine(0), playing(nine(0), push), "a push f1 + p0/2", 1}, {nine(0), playing(nine(0), push), "a push p0/2", 1}, {straight(1, 0), playing(straight(1, 0)), "a safety f1 p0/1", 1},
		// 2: no ball.
		{eight(0), begun(eight(0)), "a break +", 2}, {eight(0), playing(eight(0)), "a play c1/1", 2}, {eight(0), playing(eight(0)), "a safety +", 2}, {nine(0), playing(nine(0), push), "a push", 2}, {nine(0), playing(nine(0), push), "a push +", 2}, {straight(1, 0), begun(straight(1, 0)), "a break", 2},
		// 3: no target.
		{nine(0), begun(nine(0)), "a break f2 +", 3}, {nine(0), someOn(3, 9), "a play f9 p9/1", 3}, {nine(0), someOn(3, 9), "a play f3", 4}, {nine(0), playing(nine(0), push), "a push f9", 0}, {nine(0), playing(nine(0), push), "a safety f9 +", 3},
		{eight(0), begun(eight(0)), "a break f8 +", 0}, {eight(0), playing(eight(0)), "a play c1/1 f8 p1/1", 3}, {eight(0), someOn(8), "a safety f8 +", 0}, {eight(0), changedBy(someOn(2, 8, 9), func(s *pool.State) { s.Group = 1 }), "a safety f9 +", 3}, {eight(0), changedBy(someOn(2, 8, 9), func(s *pool.State) { s.Group = 1 }), "a safety f8 +", 3}, {eight(0), changedBy(someOn(2, 8, 9), func(s *pool.State) { s.Group = 1 }), "a safety f2 +", 0}, {eight(0), changedBy(someOn(2, 8, 9), func(s *pool.State) { s.Group, s.Turn = 1, 1 }), "b safety f9 +", 0},
		{straight(1, 0), someOn(3, 9), "a safety f9 +", 0},
		// 4: neither a cushion nor a ball in a pocket.
		{eight(0), begun(eight(0)), "a break f1", 4}, {eight(0), begun(eight(0)), "a break f1 p9/1", 0}, {eight(0), begun(eight(0)), "a break f1 +", 0}, {eight(0), playing(eight(0)), "a play c1/1 f1", 4}, {eight(0), playing(eight(0)), "a safety f1", 4}, {eight(0), playing(eight(0)), "a safety f1 p9/1", 0}, {nine(0), playing(nine(0), push), "a push f1", 0}, {nine(0), playing(nine(0), push), "a play f1", 4}, {straight(1, 0), playing(straight(1, 0)), "a play c1/1 f1 p2/1", 0},
		// No fouls.
		{eight(0), playing(eight(0)), "a concede", 0}, {eight(0), begun(eight(0)), "b concede", 0}, {nine(0), playing(nine(0), func(s *pool.State) { s.Pushed = true }), "a pass", 0},
	} {
		what := fmt.Sprintf("Foul of %q in %s: %+v", row.shot, row.r.Game, row.s)
		want(t, what, all(pool.Foul(row.r, row.s, shot(t, row.shot))), all(row.foul, api.OK))
	}
}

func TestOrderOfErrors(t *testing.T) {
	r, bad := nine(0), pool.Rules{Game: "ten"}
	s, badState := playing(r), playing(r, func(s *pool.State) { s.Balls = []int{2, 1} })
	x, badShot := pool.Shot{Kind: "safety", First: 2}, pool.Shot{Kind: "pass", First: 2}
	for _, row := range []struct {
		r pool.Rules
		s pool.State
		x pool.Shot
		e api.Errno
	}{
		{bad, badState, badShot, api.ErrKind}, {r, badState, badShot, api.ErrOrder}, {r, s, badShot, api.ErrForm}, {bad, s, x, api.ErrKind}, {r, badState, x, api.ErrOrder}, {r, s, x, api.OK},
	} {
		wantError(t, "Legal", all(pool.Legal(row.r, row.s, row.x)), row.e)
		wantError(t, "Foul", all(pool.Foul(row.r, row.s, row.x)), row.e)
		wantError(t, "Next", all(pool.Next(row.r, row.s, row.x)), row.e)
	}
}
