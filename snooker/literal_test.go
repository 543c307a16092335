package snooker_test

import (
	"fmt"
	"math/big"
	"math/rand"
	"slices"
	"testing"

	"baulk/api"
	"baulk/number"
	"baulk/snooker"
)

// Tests of P6.1 to P6.5 with the sentences of the chapter, one after another, for states, entries and places of many forms.

// worth returns the value of a ball of snooker, 0 for white and for nothing.
func worth(ball string) int { return max(slices.Index(colours(0, 7), ball), 0) }

// least returns the number of the first condition that holds, 0 if none does.
func least(conditions ...bool) int { return slices.Index(conditions, true) + 1 }

// has reports whether a ball is in a list.
func has(balls []string, ball string) bool { return slices.Contains(balls, ball) }

// literalOn returns the ball that is on.
func literalOn(s snooker.State, called string) string {
	return map[string]string{"red": "red", "colour": called, "final": colours(0, 7)[s.Colour]}[s.Phase]
}

// ownBall and otherBall are those of the player whose turn it is, outside of snooker.
func ownBall(s snooker.State) string { return []string{"white", "yellow"}[s.Turn] }

func otherBall(s snooker.State) string { return []string{"yellow", "white"}[s.Turn] }

// literalTargets returns the balls that may be hit first.
func literalTargets(g snooker.Game, s snooker.State) []string {
	switch {
	case g.Kind != "snooker":
		return []string{otherBall(s), "red"}
	case s.Phase == "colour":
		return colours(2, 7)
	case s.Phase == "red" && s.Free:
		return colours(1, 7)
	case s.Phase == "red":
		return []string{"red"}
	case s.Free:
		return colours(s.Colour, 7)
	}
	return colours(s.Colour, s.Colour)
}

// literalRule returns the number of the rule that refuses an entry.
func literalRule(g snooker.Game, s snooker.State, e snooker.Entry) int {
	var isMiscalled, isAbsent, isTooHigh bool
	if e.Kind == "shot" {
		v := worth(e.Called)
		switch {
		case g.Kind != "snooker":
		case s.Phase == "colour":
			isMiscalled = v < 2
		case e.Called != "":
			isMiscalled = !s.Free || v < 2 || s.Phase == "final" && v <= s.Colour
		}
		times := map[string]int{}
		for _, ball := range e.Pots {
			times[ball]++
		}
		isAbsent = g.Kind == "snooker" && (times["red"] > s.Reds || has(e.Hits, "red") && s.Reds == 0)
		for ball, n := range times {
			isAbsent = isAbsent || n > 1 && (ball != "red" || g.Kind != "snooker")
		}
		for _, ball := range slices.Concat(e.Hits, e.Pots) {
			isAbsent = isAbsent || s.Phase == "final" && worth(ball) > 1 && worth(ball) < s.Colour
		}
		isAbsent = isAbsent || g.Kind != "snooker" && has(e.Hits, ownBall(s))
		if !isMiscalled && !isAbsent {
			v := literalVerdict(g, s, e)
			isTooHigh = s.Scores[s.Turn]+v.Points > 99999 || s.Scores[1-s.Turn]+v.Penalty > 99999
		}
	}
	return least(s.Winner >= 0, (e.Kind == "again" || e.Kind == "free") && !s.Fouled, isMiscalled, isAbsent, isTooHigh)
}

// literalVerdict returns what a legal shot is worth.
func literalVerdict(g snooker.Game, s snooker.State, e snooker.Entry) snooker.Verdict {
	var v snooker.Verdict
	isCannon := has(e.Hits, otherBall(s)) && has(e.Hits, "red")
	switch g.Kind {
	case "snooker":
		v = literalSnooker(s, e)
	case "billiards":
		v.Foul = least(len(e.Hits) == 0, false, false, false, len(e.Pots) > 0 && !isCannon && s.Streak == 5)
		v.Penalty = 2 * min(v.Foul, 1)
		if v.Foul > 0 {
			break
		}
		for _, pot := range e.Pots {
			if pot == "red" || pot == ownBall(s) && e.Hits[0] == "red" {
				v.Points++
			}
			v.Points += 2
		}
		if isCannon {
			v.Points += 2
		}
	case "carom":
		if isCannon && e.Cushions > 2 {
			v.Points = 1
		}
	}
	v.Stays = v.Points > 0
	return v
}

// literalSnooker returns what a legal shot of snooker is worth.
func literalSnooker(s snooker.State, e snooker.Entry) snooker.Verdict {
	on := literalOn(s, e.Called)
	reds, others := 0, []string{}
	for _, ball := range e.Pots {
		if ball == "red" {
			reds++
		}
		if ball != on && ball != e.Called {
			others = append(others, ball)
		}
	}
	first := append(slices.Clone(e.Hits), "")[0]
	isOther := first != on
	if e.Called != "" {
		isOther = first != e.Called
	}
	foul := least(len(e.Hits) == 0, isOther, has(e.Pots, "white"), len(others) > 0)
	if foul > 0 {
		penalty := max(4, worth(on))
		if foul == 2 {
			penalty = max(penalty, worth(first))
		}
		for _, ball := range others {
			penalty = max(penalty, worth(ball))
		}
		return snooker.Verdict{Foul: foul, Penalty: penalty}
	}
	points := 0
	if e.Called != "" && has(e.Pots, e.Called) {
		points = worth(on)
	}
	switch {
	case s.Phase == "red":
		points += reds
	case has(e.Pots, on):
		points = worth(on)
	}
	return snooker.Verdict{Points: points}
}

// literalNext returns the state after a legal entry.
func literalNext(g snooker.Game, s snooker.State, e snooker.Entry) snooker.State {
	n, me, you := s, s.Turn, 1-s.Turn
	n.Free, n.Fouled = e.Kind == "free", false
	switch e.Kind {
	case "again":
		n.Turn, n.Break = you, 0
	case "concede":
		n.Winner = you
	}
	if e.Kind != "shot" {
		return n
	}
	v := literalVerdict(g, s, e)
	n.Scores[me] += v.Points
	n.Scores[you] += v.Penalty
	n.Break += v.Points
	if !v.Stays {
		n.Turn, n.Break, n.Streak = you, 0, 0
	}
	greater := 2
	for player := range 2 {
		if n.Scores[player] > n.Scores[1-player] {
			greater = player
		}
	}
	switch g.Kind {
	case "snooker":
		return literalReds(s, n, e, v, greater)
	case "billiards":
		if v.Points > 0 {
			n.Streak++
		}
		if has(e.Hits, "red") && has(e.Hits, otherBall(s)) {
			n.Streak = 0
		}
		for player := range 2 {
			if n.Scores[player] >= g.Target {
				n.Winner = player
			}
		}
	case "carom":
		if v.Points > 0 && n.Scores[me] < g.Target {
			return n
		}
		n.Turns[me]++
		n.Turn, n.Break = you, 0
		if me == 1 && (n.Scores[0] >= g.Target || n.Scores[1] >= g.Target || n.Turns[1] >= g.Turns) {
			n.Winner = greater
		}
	}
	return n
}

// literalReds returns the state after a shot of snooker, with the player who has the greater score.
func literalReds(s, n snooker.State, e snooker.Entry, v snooker.Verdict, greater int) snooker.State {
	n.Fouled = v.Foul > 0
	for _, ball := range e.Pots {
		if ball == "red" {
			n.Reds--
		}
	}
	isOnPotted := s.Phase == "final" && has(e.Pots, literalOn(s, "")) && v.Foul == 0
	switch {
	case s.Phase == "red" && v.Points > 0:
		n.Phase = "colour"
	case s.Phase != "final" && n.Reds > 0:
		n.Phase = "red"
	case s.Phase != "final":
		n.Phase, n.Colour = "final", 2
	case s.Colour < 7 && isOnPotted:
		n.Colour++
	case s.Colour == 7 && (isOnPotted || v.Foul > 0) && greater < 2:
		n.Winner, n.Fouled = greater, false
	case s.Colour == 7 && (isOnPotted || v.Foul > 0):
		n.Turn, n.Break = 1-s.Turn, 0
	}
	return n
}

// literalLeft returns what is left.
func literalLeft(s snooker.State) int {
	left := 8*s.Reds + 27
	switch {
	case s.Winner >= 0:
		return 0
	case s.Phase == "red" && s.Free:
		return left + 8
	case s.Phase == "red":
		return left
	case s.Phase == "colour":
		return left + 7
	}
	left = 0
	for v := s.Colour; v <= 7; v++ {
		left += v
	}
	if s.Free && s.Colour < 7 {
		left += s.Colour
	}
	return left
}

// literalStateError returns the error of a state of a game that has none.
func literalStateError(g snooker.Game, s snooker.State) api.Errno {
	for _, x := range []struct{ n, low, high int }{
		{s.Turn, 0, 1}, {s.Scores[0], 0, 99999}, {s.Scores[1], 0, 99999}, {s.Break, 0, 99999}, {s.Reds, 0, g.Reds}, {s.Colour, 0, 7},
		{s.Streak, 0, 5}, {s.Turns[0], 0, g.Turns}, {s.Turns[1], 0, g.Turns}, {s.Winner, -1, 2},
	} {
		if x.n < x.low || x.n > x.high {
			return api.ErrRange
		}
	}
	isSnooker, isCarom := g.Kind == "snooker", g.Kind == "carom"
	if !has(map[bool][]string{true: {"red", "colour", "final"}, false: {"play"}}[isSnooker], s.Phase) {
		return api.ErrKind
	}
	isOpen := s.Winner == -1
	isReached := s.Scores[0] >= g.Target || s.Scores[1] >= g.Target
	isAhead, isEven := s.Turns[0] == s.Turns[1]+1, s.Turns[0] == s.Turns[1]
	if least(
		s.Break > s.Scores[s.Turn],
		(s.Phase == "red" || s.Phase == "colour") && s.Colour != 0,
		s.Phase == "red" && s.Reds == 0,
		s.Phase == "final" && (s.Reds > 0 || s.Colour < 2),
		!isSnooker && (s.Colour != 0 || s.Free || s.Fouled),
		s.Free && s.Fouled,
		(s.Free || s.Fouled) && (s.Phase == "colour" || !isOpen),
		s.Streak > 0 && g.Kind != "billiards",
		s.Winner == 2 && !isCarom,
		g.Kind == "billiards" && isOpen && isReached,
		isCarom && isOpen && s.Turn == 1 && !isAhead,
		isCarom && isOpen && s.Turn == 0 && (!isEven || s.Turns[0] >= g.Turns || isReached),
		isCarom && !isOpen && !isEven && !(s.Turn == 1 && isAhead),
	) > 0 {
		return api.ErrState
	}
	return api.OK
}

func TestLiteralStates(t *testing.T) {
	r := rand.New(rand.NewSource(55))
	seen := map[string]int{}
	small := func() int { return pick(r, 0, 0, 0, 0, 1, 2, r.Intn(9)) }
	for range 30000 {
		g := pick(r, reds(1), reds(7), billiards(3), billiards(8), carom(2, 2), carom(5, 7))
		s := snooker.State{Turn: r.Intn(2), Scores: [2]int{small(), small()}, Break: small(), Phase: "play", Winner: pick(r, -1, -1, 0, 1, 2)}
		switch g.Kind {
		case "snooker":
			s.Phase, s.Reds, s.Colour = pick(r, "red", "colour", "final"), min(small(), g.Reds), small()
			s.Free, s.Fouled = chance(r, 3), chance(r, 3)
		case "billiards":
			s.Streak = r.Intn(6)
		case "carom":
			s.Turns[1] = r.Intn(g.Turns + 1)
			s.Turns[0] = min(s.Turns[1]+r.Intn(3), g.Turns)
		}
		if chance(r, 5) {
			*pick(r, &s.Turn, &s.Break, &s.Reds, &s.Colour, &s.Streak, &s.Turns[0], &s.Turns[1], &s.Winner) = pick(r, -1, 0, 1, 2, 3)
		}
		if chance(r, 20) {
			*pick(r, &s.Free, &s.Fouled) = true
		}
		if chance(r, 20) {
			s.Phase = pick(r, "red", "colour", "final", "play", "")
		}
		e := literalStateError(g, s)
		want(t, fmt.Sprintf("CheckState of %+v in %+v", s, g), all(snooker.CheckState(g, s)), all(e))
		seen[fmt.Sprint(g.Kind, e)]++
	}
	for _, kind := range []string{"snooker", "billiards", "carom"} {
		for _, e := range []api.Errno{api.OK, api.ErrRange, api.ErrKind, api.ErrState} {
			if seen[fmt.Sprint(kind, e)] < 100 {
				t.Errorf("the error %d of %s was tried only %d times", e, kind, seen[fmt.Sprint(kind, e)])
			}
		}
	}
}

// pick returns one of some values.
func pick[T any](r *rand.Rand, values ...T) T { return values[r.Intn(len(values))] }

// chance reports one of n possibilities.
func chance(r *rand.Rand, n int) bool { return r.Intn(n) == 0 }

// someState returns a state of a game, which CheckState accepts.
func someState(r *rand.Rand, g snooker.Game) snooker.State {
	for {
		s := snooker.State{Turn: r.Intn(2), Phase: "play", Winner: -1}
		for player := range 2 {
			s.Scores[player] = pick(r, r.Intn(9), r.Intn(60), 99990+r.Intn(10))
		}
		if chance(r, 3) {
			s.Scores[0] = min(s.Scores[1]+pick(r, -7, -4, 0, 4, 7), 99999)
		}
		if chance(r, 15) {
			s.Winner = r.Intn(3)
		}
		switch g.Kind {
		case "snooker":
			s.Phase = pick(r, "red", "colour", "final", "final")
			s.Reds, s.Colour = r.Intn(g.Reds+1), pick(r, 0, 2, 3, 4, 5, 6, 7, 7)
			s.Free, s.Fouled = chance(r, 3), chance(r, 3)
		case "billiards":
			s.Streak = pick(r, 0, 1, 4, 5)
			s.Scores = [2]int{max(g.Target-r.Intn(20), 0), max(g.Target-r.Intn(20), 0)}
		case "carom":
			n := pick(r, 0, g.Turns-1, r.Intn(g.Turns))
			s.Turns = [2]int{min(n+s.Turn, g.Turns), n}
			if chance(r, 2) {
				s.Scores = [2]int{max(g.Target-r.Intn(3), 0), max(g.Target-r.Intn(3), 0)}
			}
		}
		if s.Scores[s.Turn] > 0 {
			s.Break = r.Intn(min(s.Scores[s.Turn], 20) + 1)
		}
		if snooker.CheckState(g, s) == api.OK {
			return s
		}
	}
}

// someEntry returns an entry in a state, which is often legal, and often scores.
func someEntry(r *rand.Rand, g snooker.Game, s snooker.State) snooker.Entry {
	if s.Fouled && chance(r, 2) || chance(r, 30) {
		return act(pick(r, "again", "free", "free"))
	}
	if chance(r, 60) {
		return act("concede")
	}
	e := act("shot")
	targets := literalTargets(g, s)
	target := pick(r, targets...)
	if g.Kind == "snooker" {
		if (s.Phase == "colour" || s.Free && target != targets[0]) && !chance(r, 20) {
			e.Called = target
		}
		if chance(r, 40) {
			e.Called = pick(r, colours(2, 7)...)
		}
	}
	balls := slices.Concat(targets, targets, targets, []string{target, target, target})
	if chance(r, 4) {
		balls = append(balls, "white", "red", pick(r, "yellow", "red"))
		if g.Kind == "snooker" {
			balls = append(balls, colours(1, 7)...)
		}
	}
	if !chance(r, 15) {
		e.Hits = []string{target}
	}
	for range pick(r, 0, 0, 0, 1, 1, 2) {
		if ball := pick(r, balls...); ball != "white" || g.Kind != "snooker" {
			e.Hits = append(e.Hits, ball)
		}
	}
	if g.Kind == "carom" {
		e.Cushions = r.Intn(7)
		return e
	}
	if !chance(r, 3) {
		e.Pots = []string{target}
	}
	for range pick(r, 0, 0, 0, 1, 1, 2, 3) {
		e.Pots = append(e.Pots, pick(r, balls...))
	}
	if !chance(r, 4) && g.Kind == "billiards" {
		slices.Sort(e.Pots)
		e.Pots = slices.Compact(e.Pots)
	}
	return e
}

// someLog returns a log of n entries, most of which are legal.
func someLog(r *rand.Rand, g snooker.Game, n int) []snooker.Entry {
	var l []snooker.Entry
	s := snooker.State{Phase: "play", Reds: g.Reds, Winner: -1}
	if g.Kind == "snooker" {
		s.Phase = "red"
	}
	for len(l) < n {
		e := someEntry(r, g, s)
		if e.Kind == "concede" && !chance(r, 9) {
			continue
		}
		l = append(l, e)
		if literalRule(g, s, e) == 0 {
			s = literalNext(g, s, e)
		}
	}
	return l
}

func TestLiteralEntries(t *testing.T) {
	r := rand.New(rand.NewSource(51))
	seen := map[string]int{}
	for range 50000 {
		g := pick(r, games()...)
		s := someState(r, g)
		e := someEntry(r, g, s)
		what := fmt.Sprintf(" of %+v in %+v: %+v", e, g, s)
		if s.Winner < 0 {
			want(t, "On"+what, all(snooker.On(g, s)), all(literalTargets(g, s), api.OK))
		}
		if g.Kind == "snooker" {
			want(t, "Left"+what, all(snooker.Left(g, s)), all(literalLeft(s), api.OK))
		}
		rule := literalRule(g, s, e)
		want(t, "Legal"+what, all(snooker.Legal(g, s, e)), all(rule, api.OK))
		seen[fmt.Sprint("rule ", rule, " of ", g.Kind)]++
		if rule != 0 {
			wantError(t, "Next"+what, all(snooker.Next(g, s, e)), api.ErrRule)
			continue
		}
		next := literalNext(g, s, e)
		want(t, "Next"+what, all(snooker.Next(g, s, e)), all(next, api.OK))
		want(t, "CheckState of Next"+what, all(snooker.CheckState(g, next)), all(api.OK))
		seen[fmt.Sprint(g.Kind, " won by ", next.Winner)]++
		seen[s.Phase+" then "+next.Phase]++
		if e.Kind == "shot" {
			v := literalVerdict(g, s, e)
			want(t, "Judge"+what, all(snooker.Judge(g, s, e)), all(v, api.OK))
			seen[fmt.Sprint(g.Kind, " foul ", v.Foul)]++
			seen[fmt.Sprint(g.Kind, " stays ", v.Stays)]++
		}
	}
	for _, what := range []string{
		"rule 0 of snooker", "rule 1 of snooker", "rule 2 of snooker", "rule 3 of snooker", "rule 4 of snooker", "rule 5 of snooker", "rule 1 of billiards", "rule 2 of billiards", "rule 4 of billiards", "rule 1 of carom", "rule 2 of carom", "rule 4 of carom",
		"snooker won by 0", "snooker won by 1", "billiards won by 0", "billiards won by 1", "carom won by 0", "carom won by 1", "carom won by 2",
		"snooker foul 0", "snooker foul 1", "snooker foul 2", "snooker foul 3", "snooker foul 4", "billiards foul 0", "billiards foul 1", "billiards foul 5",
		"red then red", "red then colour", "red then final", "colour then red", "colour then final", "snooker stays true", "billiards stays true", "carom stays true", "carom stays false",
	} {
		if seen[what] < 40 {
			t.Errorf("%s was tried only %d times", what, seen[what])
		}
	}
}

func TestLiteralLogs(t *testing.T) {
	r := rand.New(rand.NewSource(52))
	ends := map[int]int{}
	for range 1500 {
		g := pick(r, games()...)
		l := someLog(r, g, r.Intn(90))
		what := fmt.Sprintf(" of %+v in %+v", l, g)
		s, _ := snooker.Start(g)
		var refused []snooker.Refusal
		var scores [][2]int
		var breaks [2][]int
		var last *int // the points of the visit
		for i, e := range l {
			rule := literalRule(g, s, e)
			if rule != 0 {
				refused = append(refused, snooker.Refusal{Number: i + 1, Rule: rule})
			} else {
				next := literalNext(g, s, e)
				if points := next.Scores[s.Turn] - s.Scores[s.Turn]; points > 0 {
					if last == nil {
						breaks[s.Turn] = append(breaks[s.Turn], 0)
						last = &breaks[s.Turn][len(breaks[s.Turn])-1]
					}
					*last += points
				}
				if next.Turn != s.Turn {
					last = nil
				}
				s = next
			}
			scores = append(scores, s.Scores)
		}
		ends[s.Winner]++
		want(t, "Replay"+what, all(snooker.Replay(g, l)), all(s, refused, api.OK))
		want(t, "Audit"+what, all(snooker.Audit(g, l, scores)), all(0, api.OK))
		for player := range 2 {
			want(t, "Breaks"+what, all(snooker.Breaks(g, l, player)), all(breaks[player], api.OK))
		}
	}
	for winner := -1; winner <= 2; winner++ {
		if ends[winner] < 20 {
			t.Errorf("only %d frames were won by %d", ends[winner], winner)
		}
	}
}

// rat reads a number, written writes one.
func rat(x api.Rat) *big.Rat {
	y, _ := new(big.Rat).SetString(string(x))
	return y
}

func written(x *big.Rat) api.Rat { return api.Rat(x.RatString()) }

// literalWays returns A, B and D of the ways out of balls, and of the ways in with -B; without D above 0 there is none.
func literalWays(spot api.Place, balls []api.Place, along api.Place, diameter api.Rat) (ways [][2]api.Surd) {
	dot := func(a, b api.Place) *big.Rat {
		x, y := new(big.Rat).Mul(rat(a.X), rat(b.X)), new(big.Rat).Mul(rat(a.Y), rat(b.Y))
		return x.Add(x, y)
	}
	for _, ball := range balls {
		v := api.Place{X: written(new(big.Rat).Sub(rat(ball.X), rat(spot.X))), Y: written(new(big.Rat).Sub(rat(ball.Y), rat(spot.Y)))}
		d := rat(diameter)
		beyond := new(big.Rat).Sub(dot(v, v), d.Mul(d, d))
		root := new(big.Rat).Mul(dot(v, along), dot(v, along))
		root.Sub(root, beyond.Mul(beyond, dot(along, along)))
		a, b := new(big.Rat).Quo(dot(v, along), dot(along, along)), new(big.Rat).Inv(dot(along, along))
		pair := [2]api.Surd{}
		if root.Sign() > 0 {
			pair = [2]api.Surd{surd(written(a), "-"+written(b), written(root)), surd(written(a), written(b), written(root))}
		}
		ways = append(ways, pair)
	}
	return ways
}

// order compares two surds.
func order(a, b api.Surd) int {
	n, _ := number.SurdOrder(a, b)
	return n
}

// literalRespot returns where a colour is put: it goes on from the spot to the way out of a ball that is in the way, as
// long as there is one.
func literalRespot(spots, balls []api.Place, own int, along api.Place, diameter api.Rat) (int, api.Surd) {
	zero := surd("0", "0", "0")
	isIn := func(t api.Surd, way [2]api.Surd) bool {
		return way[0].D != "" && order(way[0], t) < 0 && order(t, way[1]) < 0
	}
	isFree := func(spot int) bool {
		return !slices.ContainsFunc(literalWays(spots[spot], balls, along, diameter), func(way [2]api.Surd) bool { return isIn(zero, way) })
	}
	if isFree(own) {
		return own, zero
	}
	for i := len(spots) - 1; i >= 0; i-- {
		if isFree(i) {
			return i, zero
		}
	}
	ways := literalWays(spots[own], balls, along, diameter)
	at := zero
	for i := 0; i < len(ways); i++ {
		if isIn(at, ways[i]) {
			at, i = ways[i][1], -1
		}
	}
	for _, way := range ways {
		if way[0].D != "" && order(way[1], at) == 0 {
			return own, way[1]
		}
	}
	return own, at
}

func TestLiteralSpots(t *testing.T) {
	r := rand.New(rand.NewSource(54))
	seen := map[string]int{}
	coordinate := func(n int) api.Rat {
		x, _ := number.Of(r.Intn(2*n+1)-n, pick(r, 1, 1, 1, 2, 3))
		return x
	}
	for range 2500 {
		var spots, balls []api.Place
		size := 1 + r.Intn(12)
		for range 1 + r.Intn(pick(r, 1, 2, 6)) {
			spots = append(spots, api.Place{X: coordinate(size), Y: coordinate(size)})
		}
		for range r.Intn(25) {
			balls = append(balls, api.Place{X: coordinate(size), Y: coordinate(size)})
		}
		along := api.Place{X: coordinate(3), Y: coordinate(3)}
		diameter := pick[api.Rat](r, "1", "2", "5/2", "3", "5", "10")
		own := r.Intn(len(spots))
		if along == (api.Place{X: "0", Y: "0"}) {
			continue
		}
		what := fmt.Sprintf(" of %d in %v with balls at %v along %v, diameter %s", own, spots, balls, along, diameter)
		n, at := literalRespot(spots, balls, own, along, diameter)
		want(t, "Respot"+what, all(snooker.Respot(spots, balls, own, along, diameter)), all(n, at, api.OK))
		want(t, "CheckRespot"+what, all(snooker.CheckRespot(spots, balls, n, along, diameter, at)), all(api.OK))
		seen[fmt.Sprint(n == own, at.D != "0")]++
		// What is a little less far is not free, as nothing before it is.
		if at.D != "0" {
			at.A = written(new(big.Rat).Sub(rat(at.A), big.NewRat(1, 1000000)))
			want(t, "CheckRespot before it"+what, all(snooker.CheckRespot(spots, balls, n, along, diameter, at)), all(api.ErrOverlap))
		}
	}
	for _, what := range []string{"true true", "true false", "false false"} {
		if seen[what] < 100 {
			t.Errorf("%s was tried only %d times", what, seen[what])
		}
	}
}
