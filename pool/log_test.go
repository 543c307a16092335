package pool_test

import (
	"slices"
	"testing"

	"baulk/api"
	"baulk/pool"
)

// Tests of P5.4 (logs) and P5.5 (corrections).

// mixed returns a log of eight ball some of whose entries are set aside.
func mixed(t *testing.T) []pool.Shot {
	t.Helper()
	return log(t,
		"a safety f1 +",           // 1: a break is due
		"a break f3 + p9/2",       // 2: good
		"b play c1/1 f1 p1/1",     // 3: not the turn of b
		"a play c10/1 f10 p10/1",  // 4: good, the group 2
		"a play c11/4 f3 + p11/4", // 5: the foul 3
		"b push f1",               // 6: no push in eight ball
		"b safety f1 +",           // 7: the turn changes
		"a play c9/1 f12 p9/1",    // 8: the ball 9 is not on the table
		"a safety f9 +",           // 9: it cannot be hit, either
		"a safety f12 p9/1",       // 10: nor be pocketed
		"a play c12/2 f12 p12/2",  // 11: good
		"b concede",               // 12
		"a play c13/2 f13 p13/2",  // 13: the frame is over
	)
}

func TestReplay(t *testing.T) {
	for _, r := range games() {
		want(t, "Replay of no shots", all(pool.Replay(r, nil)), all(begun(r), []pool.Refusal(nil), api.OK))
	}
	s := pool.State{Group: 2, Balls: []int{1, 2, 3, 4, 5, 6, 7, 8, 13, 14, 15}, Scores: [2]int{3, 0}, Run: 1, Racks: 1, Over: true, Winner: 0}
	refused := []pool.Refusal{{1, 3}, {3, 2}, {6, 4}, {8, 5}, {9, 6}, {10, 7}, {13, 1}}
	want(t, "Replay", all(pool.Replay(eight(0), mixed(t))), all(s, refused, api.OK))
}

func TestNotes(t *testing.T) {
	for _, r := range games() {
		want(t, "Notes of no shots", all(pool.Notes(r, nil)), all([]pool.Note(nil), api.OK))
	}
	notes := []pool.Note{
		{Number: 1, Rule: 3}, {Number: 2, Points: 1}, {Number: 3, Player: 1, Rule: 2}, {Number: 4, Points: 1}, {Number: 5, Foul: 3, Turn: true}, {Number: 6, Player: 1, Rule: 4}, {Number: 7, Player: 1, Turn: true},
		{Number: 8, Rule: 5}, {Number: 9, Rule: 6}, {Number: 10, Rule: 7}, {Number: 11, Points: 1}, {Number: 12, Player: 1}, {Number: 13, Rule: 1},
	}
	want(t, "Notes", all(pool.Notes(eight(0), mixed(t))), all(notes, api.OK))
	l := log(t, "a break", "b safety f1 +", "a safety f1", "a break f1 p0/1", "b play c1/1 f2 p2/2 p1/1", "b play c3/1 p0/1")
	notes = []pool.Note{{Number: 1, Foul: 2, Points: -1, Turn: true}, {Number: 2, Player: 1, Turn: true}, {Number: 3, Foul: 4, Points: -16}, {Number: 4, Foul: 1, Points: -1, Turn: true}, {Number: 5, Player: 1, Points: 2}, {Number: 6, Player: 1, Foul: 1, Points: -1, Turn: true}}
	want(t, "Notes of straight pool", all(pool.Notes(straight(9, 2), l)), all(notes, api.OK))
	l = log(t, "a break f1 + p4/1", "a push f9", "b pass", "a play f2 +", "b play p0/1", "a play f1 p9/1")
	notes = []pool.Note{{Number: 1, Points: 1}, {Number: 2, Turn: true}, {Number: 3, Player: 1, Turn: true}, {Number: 4, Foul: 3, Turn: true}, {Number: 5, Player: 1, Foul: 1, Turn: true}, {Number: 6, Points: 1}}
	want(t, "Notes of nine ball", all(pool.Notes(nine(3), l)), all(notes, api.OK))
	want(t, "Notes of a lost frame", all(pool.Notes(nine(2), log(t, "a break", "b safety", "a safety", "a safety")))[:1], all([]pool.Note{{Number: 1, Foul: 2, Turn: true}, {Number: 2, Player: 1, Foul: 2, Turn: true}, {Number: 3, Foul: 2}, {Number: 4, Rule: 1}}))
}

func TestRuns(t *testing.T) {
	for _, row := range []struct {
		what  string
		r     pool.Rules
		shots []string
		runs  []pool.Run
	}{
		{"no shots", eight(0), nil, nil},
		{"no points", eight(0), []string{"a break f1 +", "b safety f1 +", "a concede"}, nil},
		{"the end of the log", eight(0), []string{"a break f1 p1/1 p2/1", "a play c3/1 f3 p3/1"}, []pool.Run{{Player: 0, Points: 3}}},
		{"turns", eight(0), []string{"a break f1 p1/1", "a play c3/1 f3 +", "b play c9/1 f9 p9/1", "b play c10/1 f10 p10/1 p11/1", "b safety f12 +", "a safety f2 +", "b play c12/3 f12 p12/3"}, []pool.Run{{Player: 0, Points: 1}, {Player: 1, Points: 3}, {Player: 1, Points: 1}}},
		{"entries that are set aside", eight(0), []string{"a break f1 p1/1", "b safety f2 +", "a break f1 p2/1", "a play c3/1 f3 p3/1"}, []pool.Run{{Player: 0, Points: 2}}},
		{"a foul", eight(0), []string{"a break f1 p1/1", "a play c3/1 f3 p3/1 p0/1", "b safety f9 +", "a play c2/1 f2 p2/1"}, []pool.Run{{Player: 0, Points: 1}, {Player: 0, Points: 1}}},
		{"a push and a pass", nine(0), []string{"a break f1 p2/1 p3/1", "a push f9 p4/1", "b pass", "a play f1 p5/1"}, []pool.Run{{Player: 0, Points: 2}, {Player: 0, Points: 1}}},
		{"a concession of the other player", nine(0), []string{"a break f1 p2/1 p3/1", "b concede"}, []pool.Run{{Player: 0, Points: 2}}},
		{"a lost frame", eight(0), []string{"a break f1 p2/1 p3/1", "a play c8/1 f1 p8/1", "b concede", "a safety"}, []pool.Run{{Player: 0, Points: 3}}},
		{"a frame that is lost without a point", eight(0), []string{"a break f1 p2/1 p3/1", "a safety f1 p8/1"}, []pool.Run{{Player: 0, Points: 2}}},
		{"a foul that ends the frame", eight(0), []string{"a break f1 p2/1 p3/1", "a play c8/1 f8 p8/1", "b safety"}, []pool.Run{{Player: 0, Points: 2}}},
		{"the limit of fouls, after which the turn is the same", straight(20, 2), []string{"a break f1", "b safety f1 +", "a play c1/1", "a break f1 +", "b play c1/1 f1 p1/1 p2/1", "b play c3/1", "a safety f4 +", "b play c3/1 f3 p3/1", "b play c4/1 f4 p4/1", "b safety"}, []pool.Run{{Player: 1, Points: 2}, {Player: 1, Points: 2}}},
	} {
		want(t, "Runs with "+row.what, all(pool.Runs(row.r, log(t, row.shots...))), all(row.runs, api.OK))
	}
	want(t, "Runs", all(pool.Runs(eight(0), mixed(t))), all([]pool.Run{{Player: 0, Points: 2}, {Player: 0, Points: 1}}, api.OK))
}

func TestCorrections(t *testing.T) {
	l := log(t, "a break f1 + p2/1", "a play c1/1 f1 p1/1", "a safety f3 +")
	x := shot(t, "b play c4/6 f4 p4/6 p0/2")
	for n := 1; n <= 3; n++ {
		wanted := log(t, "a break f1 + p2/1", "a play c1/1 f1 p1/1", "a safety f3 +")
		wanted[n-1] = x
		want(t, "Correct", all(pool.Correct(l, n, x)), all(wanted, api.OK))
	}
	bad := pool.Shot{Kind: "pass", Cushion: true}
	for _, row := range []struct {
		what string
		l    []pool.Shot
		n    int
		x    pool.Shot
		e    api.Errno
	}{
		{"number 0", l, 0, x, api.ErrUnknown}, {"number 4", l, 4, x, api.ErrUnknown}, {"number -1", l, -1, x, api.ErrUnknown}, {"no log", nil, 1, x, api.ErrUnknown}, {"a wrong shot", l, 1, bad, api.ErrForm}, {"number 4 and a wrong shot", l, 4, bad, api.ErrUnknown},
		{"a wrong log", []pool.Shot{bad}, 2, pool.Shot{}, api.ErrForm}, {"a wrong log and shot", []pool.Shot{bad}, 1, pool.Shot{}, api.ErrForm}, {"a long log", many(1001, nil), 0, bad, api.ErrMany}, {"a log of 1000 shots", many(1000, nil), 1000, x, api.OK},
	} {
		wantError(t, "Correct with "+row.what, all(pool.Correct(row.l, row.n, row.x)), row.e)
	}
}

func TestChanges(t *testing.T) {
	r := nine(3)
	l := log(t, "a break f1 +", "b safety f1 +", "a safety f1 +", "b play f1 p1/1")
	for _, row := range []struct {
		what string
		a, b []pool.Shot
		n    int
	}{
		{"no entries", nil, nil, 0}, {"the same log", l, l, 0}, {"no entries of one log", nil, l, 1}, {"no entries of the other log", l, nil, 1}, {"fewer entries", l, l[:2], 3}, {"more entries", l[:3], l, 4},
		{"another first entry", l, log(t, "a break f1 p1/1"), 1}, {"another entry", l, log(t, "a break f1 +", "b safety f1 p3/1"), 2},
		{"a foul", l, log(t, "a break f1 p0/1", "b safety f1 +", "a safety f1 +", "b play f1 p1/1"), 1}, {"another cushion", l, log(t, "a break f1 +", "b play f1 +", "a play f1 +", "b play f1 + p1/6"), 0},
		// States that differ for a time alone.
		{"the same turn later", l, log(t, "a break f1 +", "b pass", "b safety f1 +"), 2}, {"entries that are set aside", l, log(t, "a break f1 +", "b safety f1 +", "a safety f1 +", "b play f1 p1/1", "a break", "b break", "a play f2 +"), 0}, {"the frame that goes on", l, log(t, "a break f1 +", "b safety f1 +", "a safety f1 +", "b play f1 p1/1", "a break", "b safety f2 +"), 6},
	} {
		want(t, "Changed with "+row.what, all(pool.Changed(r, row.a, row.b)), all(row.n, api.OK))
		want(t, "Changed the other way round with "+row.what, all(pool.Changed(r, row.b, row.a)), all(row.n, api.OK))
	}
}

// One field alone can make a difference. The other ones (Break, Push, Scores, Run and Racks) do not: as long as two states
// are equal, no two entries lead to states that differ in one of them, and in nothing else.
func TestChangesOfOneField(t *testing.T) {
	for _, row := range []struct {
		what  string
		r     pool.Rules
		both  []string
		a, b  string
		field func(s *pool.State)
	}{
		{"the turn", eight(0), []string{"a break f1 +"}, "a safety", "b safety f1 +", func(s *pool.State) { s.Turn = 0 }},
		{"the hand", straight(9, 3), []string{"a break f1 +"}, "b safety f1", "b safety p0/1", func(s *pool.State) { s.Hand = true }},
		{"the push", nine(3), []string{"a break f1 p2/1"}, "a safety f1 +", "a push f1", func(s *pool.State) { s.Pushed = true }},
		{"the group", eight(0), []string{"a break f1 p1/1"}, "a play c2/1 f2 p2/1 p10/1", "a play c10/1 f2 p2/1 p10/1", func(s *pool.State) { s.Group = 2 }},
		{"the balls", eight(0), nil, "a break f1 p1/1", "a break f1 p2/1", func(s *pool.State) { s.Balls = upTo(15, 2) }},
		{"the fouls", eight(0), []string{"a break f1 +"}, "b safety f1 p8/1", "b safety f8 p8/1", func(s *pool.State) { s.Fouls[1] = 1 }},
		{"the end", nine(0), []string{"a break f1 p2/1"}, "a break", "b concede", func(s *pool.State) { s.Over = true }},
		{"the winner", nine(0), []string{"a break f1 p2/1"}, "b concede", "a concede", func(s *pool.State) { s.Winner = 1 }},
	} {
		a := log(t, append(slices.Clone(row.both), row.a)...)
		b := log(t, append(slices.Clone(row.both), row.b)...)
		s, _, _ := pool.Replay(row.r, a)
		row.field(&s)
		other, _, _ := pool.Replay(row.r, b)
		want(t, "the states that differ in "+row.what, all(s), all(other))
		want(t, "Changed with "+row.what, all(pool.Changed(row.r, a, b)), all(len(b), api.OK))
	}
}

func TestAudits(t *testing.T) {
	r := straight(9, 2)
	l := log(t, "a break", "b safety f1 +", "b safety f1 +", "a safety f1", "a break f1 +", "b play c1/1 f1 p1/1 p2/2")
	claims := [][2]int{{-1, 0}, {-1, 0}, {-1, 0}, {-17, 0}, {-17, 0}, {-17, 2}}
	want(t, "Audit", all(pool.Audit(r, l, claims)), all(0, api.OK))
	want(t, "Audit of nothing", all(pool.Audit(r, nil, nil)), all(0, api.OK))
	for n := range claims {
		for player := range 2 {
			for _, d := range []int{-1, 1, 1 << 40} {
				wrong := append([][2]int(nil), claims...)
				wrong[n][player] += d
				wrong[5][0] = 9
				want(t, "Audit of a wrong claim", all(pool.Audit(r, l, wrong)), all(n+1, api.OK))
			}
		}
	}
	wantError(t, "Audit with a claim less", all(pool.Audit(r, l, claims[:5])), api.ErrShape)
	wantError(t, "Audit with a claim more", all(pool.Audit(r, l[:5], claims)), api.ErrShape)
	wantError(t, "Audit with wrong claims, one less", all(pool.Audit(r, l, make([][2]int, 5))), api.ErrShape)
}

func TestErrorsOfLogs(t *testing.T) {
	bad, good := pool.Rules{Game: "ten"}, nine(0)
	wrong, right, long := []pool.Shot{{Kind: "pass", First: 1}}, log(t, "a break f1 +"), many(1001, nil)
	for _, row := range []struct {
		r    pool.Rules
		l, m []pool.Shot
		e    api.Errno
	}{
		{bad, wrong, long, api.ErrKind}, {bad, right, right, api.ErrKind}, {good, wrong, long, api.ErrForm}, {good, wrong, right, api.ErrForm}, {good, long, wrong, api.ErrMany}, {good, right, right, api.OK},
	} {
		wantError(t, "Replay", all(pool.Replay(row.r, row.l)), row.e)
		wantError(t, "Notes", all(pool.Notes(row.r, row.l)), row.e)
		wantError(t, "Runs", all(pool.Runs(row.r, row.l)), row.e)
		wantError(t, "Changed", all(pool.Changed(row.r, row.l, row.m)), row.e)
		if row.e != api.OK {
			wantError(t, "Audit", all(pool.Audit(row.r, row.l, nil)), row.e)
		}
	}
	wantError(t, "Changed", all(pool.Changed(good, right, wrong)), api.ErrForm)
	wantError(t, "Changed", all(pool.Changed(good, right, long)), api.ErrMany)
}
