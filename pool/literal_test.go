package pool_test

import (
	"fmt"
	"math/rand"
	"slices"
	"testing"

	"baulk/api"
	"baulk/pool"
)

// Tests of P5.2 to P5.5 with the sentences of the chapter, one after another, for states and shots of many forms.

// literalTargets returns the balls that may be hit first.
func literalTargets(r pool.Rules, s pool.State) []int {
	low := (s.Group == 1) == (s.Turn == 0)
	var own []int
	for _, ball := range s.Balls {
		switch {
		case r.Game == "straight" || r.Game == "eight" && s.Break:
			own = append(own, ball)
		case r.Game == "nine" && len(own) == 0:
			own = append(own, ball)
		case r.Game == "eight" && ball != 8 && (s.Group == 0 || low == (ball <= 7)):
			own = append(own, ball)
		}
	}
	if r.Game == "eight" && len(own) == 0 && slices.Contains(s.Balls, 8) {
		own = []int{8}
	}
	return own
}

// least returns the number of the first condition that holds, 0 if none does.
func least(conditions ...bool) int { return slices.Index(conditions, true) + 1 }

// counted returns how many object balls were pocketed.
func counted(x pool.Shot) int {
	n := 0
	for _, p := range x.Pots {
		n += min(p.Ball, 1)
	}
	return n
}

// literalRule returns the number of the rule that refuses a shot.
func literalRule(r pool.Rules, s pool.State, x pool.Shot) int {
	on := func(ball int) bool { return slices.Contains(s.Balls, ball) }
	calls := x.Kind == "play" && r.Game != "nine"
	isGone := false
	for _, p := range x.Pots {
		isGone = isGone || p.Ball > 0 && !on(p.Ball)
	}
	return least(
		s.Over,
		x.Player != s.Turn && x.Kind != "concede",
		s.Break && x.Kind != "break" && x.Kind != "concede" || !s.Break && x.Kind == "break",
		x.Kind == "push" && !s.Push || x.Kind == "pass" && !s.Pushed,
		calls && !on(x.Ball) || !calls && x.Ball > 0,
		x.First > 0 && !on(x.First),
		isGone || counted(x) > 0 && x.First == 0,
	)
}

// literalFoul returns the number of the foul of a legal shot.
func literalFoul(r pool.Rules, s pool.State, x pool.Shot) int {
	if x.Kind == "pass" || x.Kind == "concede" {
		return 0
	}
	isScratch := false
	for _, p := range x.Pots {
		isScratch = isScratch || p.Ball == 0
	}
	isPush := x.Kind == "push"
	return least(isScratch, x.First == 0, !slices.Contains(literalTargets(r, s), x.First) && !isPush, !x.Cushion && counted(x) == 0 && !isPush)
}

// literalGood reports whether a legal shot is good.
func literalGood(r pool.Rules, s pool.State, x pool.Shot) bool {
	if literalFoul(r, s, x) > 0 {
		return false
	}
	called := slices.Index(x.Pots, pool.Pot{Ball: x.Ball, Pocket: x.Pocket}) >= 0
	switch x.Kind + " of " + r.Game {
	case "play of straight", "play of eight":
		return called
	case "play of nine", "break of eight", "break of nine":
		return counted(x) > 0
	}
	return false
}

// literalNext returns the state after a legal shot.
func literalNext(r pool.Rules, s pool.State, x pool.Shot) pool.State {
	n, me, you := s, x.Player, 1-x.Player
	if x.Kind == "concede" {
		n.Over, n.Winner = true, you
		return n
	}
	n.Break, n.Hand = false, false
	n.Push, n.Pushed = x.Kind == "break" && r.Game == "nine", x.Kind == "push"
	if x.Kind == "pass" {
		n.Turn, n.Run = you, 0
		return n
	}
	foul, good := literalFoul(r, s, x), literalGood(r, s, x)
	n.Balls = nil
	gone := map[int]bool{}
	for _, p := range x.Pots {
		stays := r.Game == "straight" && !good || r.Game == "eight" && p.Ball == 8 && x.Kind == "break" || r.Game == "nine" && p.Ball == 9 && !good
		gone[p.Ball] = !stays
	}
	for _, ball := range s.Balls {
		if !gone[ball] {
			n.Balls = append(n.Balls, ball)
		}
	}
	points := 0
	if good {
		points = counted(x)
	}
	n.Scores[me] += points
	switch {
	case r.Game == "straight" && good && n.Scores[me] >= r.Target, r.Game == "nine" && good && gone[9]:
		n.Over, n.Winner = true, me
	case r.Game == "eight" && gone[8]:
		n.Over, n.Winner = true, you
		if good && x.Ball == 8 && slices.Equal(literalTargets(r, s), []int{8}) {
			n.Winner = me
		}
	}
	if good && !n.Over && r.Game == "straight" && len(n.Balls) < 2 {
		n.Balls, n.Racks = rack("straight"), n.Racks+1
	}
	if s.Group == 0 && !n.Over && r.Game == "eight" && x.Kind == "play" && good {
		n.Group = 1
		if (x.Ball > 8) != (me == 1) {
			n.Group = 2
		}
	}
	return literalCharge(r, n, x, foul, good, points)
}

// literalCharge returns the state with what a shot costs.
func literalCharge(r pool.Rules, n pool.State, x pool.Shot, foul int, good bool, points int) pool.State {
	me, you := x.Player, 1-x.Player
	if foul == 0 {
		n.Fouls[me] = 0
		if !good && !n.Over {
			n.Turn = you
		}
		n.Run += points
		if n.Turn == you {
			n.Run = 0
		}
		return n
	}
	n.Run = 0
	n.Fouls[me]++
	if r.Game == "straight" {
		n.Scores[me]--
	}
	switch {
	case r.Fouls > 0 && n.Fouls[me] == r.Fouls && r.Game == "straight":
		n.Scores[me] -= 15
		n.Fouls[me], n.Balls, n.Break, n.Racks = 0, rack("straight"), true, n.Racks+1
	case r.Fouls > 0 && n.Fouls[me] == r.Fouls:
		n.Over, n.Winner = true, you
	case !n.Over:
		n.Turn, n.Hand = you, r.Game != "straight" || foul == 1
	}
	return n
}

// pick returns one of some values.
func pick[T any](r *rand.Rand, values ...T) T { return values[r.Intn(len(values))] }

// chance reports one of n possibilities.
func chance(r *rand.Rand, n int) bool { return r.Intn(n) == 0 }

// someState returns a state of a game, which CheckState accepts.
func someState(r *rand.Rand, rules pool.Rules) pool.State {
	for {
		s := pool.State{Turn: r.Intn(2), Break: chance(r, 4), Hand: chance(r, 2), Scores: [2]int{r.Intn(20) - 5, r.Intn(20) - 5}, Run: r.Intn(9), Racks: 1 + r.Intn(4), Over: chance(r, 12)}
		if rules.Game == "eight" {
			s.Group = r.Intn(3)
		}
		if rules.Game == "nine" && !s.Break {
			s.Push = chance(r, 3)
			s.Pushed = !s.Push && chance(r, 3)
		}
		if s.Over {
			s.Winner = r.Intn(2)
		}
		share := 1 + r.Intn(8)
		for _, ball := range rack(rules.Game) {
			if !chance(r, share) || ball == 8 && rules.Game == "eight" && !chance(r, 9) {
				s.Balls = append(s.Balls, ball)
			}
		}
		s.Fouls = [2]int{r.Intn(max(rules.Fouls, 1)), r.Intn(max(rules.Fouls, 3))}
		if pool.CheckState(rules, s) == api.OK {
			return s
		}
	}
}

// someShot returns a shot in a state, which is often legal, and often good.
func someShot(r *rand.Rand, rules pool.Rules, s pool.State) pool.Shot {
	x := pool.Shot{Player: s.Turn, Kind: pick(r, "play", "play", "play", "play", "play", "safety", "push", "pass", "concede"), Cushion: chance(r, 2)}
	if s.Break != chance(r, 9) {
		x.Kind = "break"
	}
	if s.Pushed && chance(r, 3) {
		x.Kind = "pass"
	}
	if chance(r, 12) {
		x.Player = 1 - x.Player
	}
	if x.Kind == "pass" || x.Kind == "concede" {
		x.Cushion = false
		return x
	}
	balls := append(slices.Clone(literalTargets(rules, s)), literalTargets(rules, s)...)
	balls = append(append(balls, s.Balls...), 1+r.Intn(15))
	ball := func() int { return balls[r.Intn(len(balls))] }
	if !chance(r, 12) {
		x.First = ball()
	}
	if (x.Kind == "play" && rules.Game != "nine") != chance(r, 12) {
		x.Ball, x.Pocket = ball(), 1+r.Intn(6)
	}
	if x.Ball > 0 && !chance(r, 3) {
		x.Pots = pots(x.Pocket, x.Ball)
	}
	for range pick(r, 0, 0, 0, 1, 1, 2, 13) {
		x.Pots = append(x.Pots, pool.Pot{Ball: ball(), Pocket: 1 + r.Intn(6)})
	}
	if chance(r, 12) {
		x.Pots = append(x.Pots, pool.Pot{Ball: 0, Pocket: 1 + r.Intn(6)})
	}
	r.Shuffle(len(x.Pots), func(i, j int) { x.Pots[i], x.Pots[j] = x.Pots[j], x.Pots[i] })
	x.Pots = slices.CompactFunc(x.Pots, func(p, q pool.Pot) bool { return p.Ball == q.Ball })
	if pool.CheckShot(x) != api.OK {
		return someShot(r, rules, s)
	}
	return x
}

// someLog returns a log of up to n shots, most of which are legal.
func someLog(r *rand.Rand, rules pool.Rules, n int) []pool.Shot {
	var l []pool.Shot
	s := begun(rules)
	for range n {
		x := someShot(r, rules, s)
		if x.Kind == "concede" && !chance(r, 9) {
			continue
		}
		l = append(l, x)
		if literalRule(rules, s, x) == 0 {
			s = literalNext(rules, s, x)
		}
	}
	return l
}

func TestLiteralShots(t *testing.T) {
	r := rand.New(rand.NewSource(51))
	seen := map[string]int{}
	for range 40000 {
		rules := pick(r, games()...)
		s := someState(r, rules)
		x := someShot(r, rules, s)
		what := fmt.Sprintf("of %+v in %+v: %+v", x, rules, s)
		want(t, "Targets "+what, all(pool.Targets(rules, s)), all(literalTargets(rules, s), api.OK))
		rule := literalRule(rules, s, x)
		want(t, "Legal "+what, all(pool.Legal(rules, s, x)), all(rule, api.OK))
		seen[fmt.Sprint("rule ", rule)]++
		if rule != 0 {
			wantError(t, "Next "+what, all(pool.Next(rules, s, x)), api.ErrRule)
			continue
		}
		foul, next := literalFoul(rules, s, x), literalNext(rules, s, x)
		want(t, "Foul "+what, all(pool.Foul(rules, s, x)), all(foul, api.OK))
		want(t, "Next "+what, all(pool.Next(rules, s, x)), all(next, api.OK))
		seen[fmt.Sprint("foul ", foul)]++
		seen[fmt.Sprint(rules.Game, " over ", next.Over)]++
		seen[fmt.Sprint(rules.Game, " turn ", next.Turn != s.Turn)]++
		seen[fmt.Sprint(rules.Game, " racks ", next.Racks-s.Racks)]++
	}
	for _, what := range []string{"rule 0", "rule 1", "rule 2", "rule 3", "rule 4", "rule 5", "rule 6", "rule 7", "foul 0", "foul 1", "foul 2", "foul 3", "foul 4", "straight over true", "eight over true", "nine over true", "straight turn false", "straight racks 1"} {
		if seen[what] < 100 {
			t.Errorf("%s was tried only %d times", what, seen[what])
		}
	}
}

func TestLiteralLogs(t *testing.T) {
	r := rand.New(rand.NewSource(52))
	for range 1500 {
		rules := pick(r, games()...)
		l := someLog(r, rules, r.Intn(60))
		what := fmt.Sprintf("of %+v in %+v", l, rules)
		s := begun(rules)
		var refused []pool.Refusal
		var notes []pool.Note
		var runs []pool.Run
		var claims [][2]int
		points := 0
		for i, x := range l {
			note := pool.Note{Number: i + 1, Player: x.Player, Rule: literalRule(rules, s, x)}
			if note.Rule != 0 {
				refused = append(refused, pool.Refusal{Number: i + 1, Rule: note.Rule})
				notes, claims = append(notes, note), append(claims, s.Scores)
				continue
			}
			next := literalNext(rules, s, x)
			note.Foul, note.Points, note.Turn = literalFoul(rules, s, x), next.Scores[x.Player]-s.Scores[x.Player], next.Turn != s.Turn
			if literalGood(rules, s, x) {
				points += counted(x)
			}
			if points > 0 && (note.Turn || note.Foul > 0) {
				runs, points = append(runs, pool.Run{Player: s.Turn, Points: points}), 0
			}
			s, notes, claims = next, append(notes, note), append(claims, next.Scores)
		}
		if points > 0 {
			runs = append(runs, pool.Run{Player: s.Turn, Points: points})
		}
		want(t, "Replay "+what, all(pool.Replay(rules, l)), all(s, refused, api.OK))
		want(t, "Notes "+what, all(pool.Notes(rules, l)), all(notes, api.OK))
		want(t, "Runs "+what, all(pool.Runs(rules, l)), all(runs, api.OK))
		want(t, "Audit "+what, all(pool.Audit(rules, l, claims)), all(0, api.OK))
	}
}

func TestLiteralChanges(t *testing.T) {
	r := rand.New(rand.NewSource(53))
	for range 600 {
		rules := pick(r, games()...)
		a := someLog(r, rules, 1+r.Intn(30))
		b := slices.Clone(a[:r.Intn(len(a)+1)])
		for len(b) > 0 && chance(r, 2) {
			s, _, _ := pool.Replay(rules, a)
			b[r.Intn(len(b))] = someShot(r, rules, s)
		}
		b = append(b, someLog(r, rules, r.Intn(4))...)
		n := 0
		for i := max(len(a), len(b)); i > 0; i-- {
			s, _, _ := pool.Replay(rules, a[:min(i, len(a))])
			other, _, _ := pool.Replay(rules, b[:min(i, len(b))])
			if text(all(s)) != text(all(other)) {
				n = i
			}
		}
		want(t, fmt.Sprintf("Changed of %+v and %+v in %+v", a, b, rules), all(pool.Changed(rules, a, b)), all(n, api.OK))
	}
}
