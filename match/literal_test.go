package match_test

import (
	"fmt"
	"math/big"
	"math/rand"
	"slices"
	"strings"
	"testing"

	"baulk/api"
	"baulk/match"
)

// Tests of P7.1 to P7.5 with the sentences of the chapter, one after another, for races, states and logs of many forms.

// least returns the number of the first condition that holds, 0 if none does.
func least(conditions ...bool) int { return slices.Index(conditions, true) + 1 }

// literalBreaker returns who breaks after a frame.
func literalBreaker(order string, breaker, player int) int {
	return map[string]int{"alternate": 1 - breaker, "winner": player, "loser": 1 - player}[order]
}

// literalChances returns the chances of both to win a frame.
func literalChances(o match.Odds, breaker int) [2]*big.Rat {
	p := rat([]api.Rat{o.Own, o.Other}[breaker])
	return [2]*big.Rat{p, new(big.Rat).Sub(big.NewRat(1, 1), p)}
}

// literalResults returns the chances of the results of a race, by all ways to come to them.
func literalResults(o match.Odds, r match.Race) map[[2]int]*big.Rat {
	chances := map[[2]int]*big.Rat{}
	var walk func(won [2]int, breaker int, chance *big.Rat)
	walk = func(won [2]int, breaker int, chance *big.Rat) {
		if won[0] == r.Need[0] || won[1] == r.Need[1] {
			if chances[won] == nil {
				chances[won] = new(big.Rat)
			}
			chances[won].Add(chances[won], chance)
			return
		}
		for player, p := range literalChances(o, breaker) {
			if p.Sign() > 0 {
				n := won
				n[player]++
				walk(n, literalBreaker(r.Order, breaker, player), new(big.Rat).Mul(chance, p))
			}
		}
	}
	walk([2]int{}, r.Breaker, big.NewRat(1, 1))
	return chances
}

// literalChance returns the chance of the first player to win a race.
func literalChance(o match.Odds, r match.Race) *big.Rat {
	sum := new(big.Rat)
	for frames, chance := range literalResults(o, r) {
		if frames[0] == r.Need[0] {
			sum.Add(sum, chance)
		}
	}
	return sum
}

// literalGiven returns a race with a start.
func literalGiven(frames, start int, order string, breaker int) match.Race {
	r := match.Race{Need: [2]int{frames, frames}, Order: order, Breaker: breaker}
	if start >= 0 {
		r.Need[1] -= start
	} else {
		r.Need[0] -= -start
	}
	return r
}

// literalFairest returns the fairest start, literalLeast the least one with a chance, and whether there is one.
func literalFairest(o match.Odds, frames int, order string, breaker int) int {
	far := func(start int) *big.Rat {
		x := literalChance(o, literalGiven(frames, start, order, breaker))
		return x.Sub(x, big.NewRat(1, 2)).Abs(x)
	}
	best := 1 - frames
	for start := 1 - frames; start < frames; start++ {
		switch far(start).Cmp(far(best)) {
		case -1:
			best = start
		case 0:
			// Nearer to 0, or positive.
			if start*start < best*best || start == -best && start > 0 {
				best = start
			}
		}
	}
	return best
}

func literalLeast(o match.Odds, frames int, order string, breaker int, chance *big.Rat) (int, bool) {
	for start := 1 - frames; start < frames; start++ {
		x := literalChance(o, literalGiven(frames, start, order, breaker))
		if x.Sub(big.NewRat(1, 1), x).Cmp(chance) >= 0 {
			return start, true
		}
	}
	return 0, false
}

// someChance returns a chance, often 0 or 1; someOdds returns odds.
func someChance(r *rand.Rand) api.Rat {
	bottom := pick(r, 1, 2, 2, 3, 4, 5, 7, 12)
	return written(big.NewRat(int64(r.Intn(bottom+1)), int64(bottom)))
}

func someOdds(r *rand.Rand) match.Odds { return odds(someChance(r), someChance(r)) }

func TestLiteralRaces(t *testing.T) {
	r := rand.New(rand.NewSource(71))
	for range 2500 {
		o := someOdds(r)
		x := match.Race{Need: [2]int{1 + r.Intn(5), 1 + r.Intn(5)}, Order: pick(r, orders()...), Breaker: r.Intn(2)}
		what := fmt.Sprintf(" of %+v with %v", x, o)
		results := literalResults(o, x)
		frames := make([][2]int, 0, len(results))
		expected := new(big.Rat)
		for pair, chance := range results {
			frames = append(frames, pair)
			expected.Add(expected, new(big.Rat).Mul(chance, big.NewRat(int64(pair[0]+pair[1]), 1)))
		}
		// Results of the first player first; those of one player by the frames of the other one.
		slices.SortFunc(frames, func(a, b [2]int) int {
			if isFirst := a[0] == x.Need[0]; isFirst != (b[0] == x.Need[0]) {
				return map[bool]int{true: -1, false: 1}[isFirst]
			}
			return a[0] + a[1] - b[0] - b[1]
		})
		var list []match.Score
		for _, pair := range frames {
			list = append(list, match.Score{Frames: pair, Chance: written(results[pair])})
		}
		want(t, "Chance"+what, all(match.Chance(o, x)), all(written(literalChance(o, x)), api.OK))
		want(t, "Scores"+what, all(match.Scores(o, x)), all(list, api.OK))
		want(t, "Expected"+what, all(match.Expected(o, x)), all(written(expected), api.OK))
	}
}

func TestLiteralStarts(t *testing.T) {
	r := rand.New(rand.NewSource(72))
	starts := map[int]int{}
	for range 1500 {
		o, frames, order, breaker := someOdds(r), 1+r.Intn(4), pick(r, orders()...), r.Intn(2)
		what := fmt.Sprintf(" of %d frames with %v, %s, %d", frames, o, order, breaker)
		fairest := literalFairest(o, frames, order, breaker)
		starts[fairest]++
		want(t, "Fairest"+what, all(match.Fairest(o, frames, order, breaker)), all(fairest, api.OK))
		chance := someChance(r)
		if happens(r, 2) {
			// Just the chance of a start.
			x := literalChance(o, literalGiven(frames, r.Intn(2*frames-1)+1-frames, order, breaker))
			chance = written(x.Sub(big.NewRat(1, 1), x))
		}
		start, ok := literalLeast(o, frames, order, breaker, rat(chance))
		wanted := all(start, api.OK)
		if !ok {
			wanted = all(0, api.ErrInfeasible)
		}
		want(t, "Least"+what+" for "+string(chance), all(match.Least(o, frames, order, breaker, chance)), wanted)
		starts[10+least(ok, start == 0)]++
	}
	for _, n := range []int{-3, -2, -1, 0, 1, 2, 3, 11, 12} {
		if starts[n] < 10 {
			t.Errorf("the start %d was the fairest one only %d times", n, starts[n])
		}
	}
}

// literalRule returns the number of the rule that refuses an entry.
func literalRule(m match.Match, s match.State, e match.Entry) int {
	inFrame := e.Kind == "shot" || e.Kind == "out" || e.Kind == "frame" || e.Kind == "concede"
	return least(
		s.Winner >= 0,
		e.Kind == "break" && s.Running,
		e.Kind == "break" && s.Breaker != e.Player,
		inFrame && !s.Running,
		e.Kind == "shot" && m.Clock <= 0,
		e.Kind == "out" && m.Outs-s.Outs[e.Player] < 1,
	)
}

// literalNext returns the state after a legal entry.
func literalNext(m match.Match, s match.State, e match.Entry) match.State {
	s.Past = slices.Clone(s.Past)
	other := 1 - e.Player
	switch e.Kind {
	case "break":
		s.Running = true
	case "shot":
		if e.Value > m.Clock && s.Warned[e.Player] {
			return literalFrame(m, s, other)
		}
		s.Warned[e.Player] = s.Warned[e.Player] || e.Value > m.Clock
	case "out":
		s.Outs[e.Player]++
	case "frame":
		return literalFrame(m, s, e.Player)
	case "concede":
		return literalFrame(m, s, other)
	case "leave":
		s.Winner, s.Running, s.Warned = other, false, [2]bool{}
	}
	return s
}

// literalFrame returns the state after a frame that a player has won.
func literalFrame(m match.Match, s match.State, player int) match.State {
	s.Frames[player]++
	s.Running, s.Warned = false, [2]bool{}
	s.Breaker = literalBreaker(m.Order, s.Breaker, player)
	if s.Frames[player] < m.Frames {
		return s
	}
	s.Sets[player]++
	s.Past = append(slices.Clone(s.Past), s.Frames)
	s.Frames, s.Outs = m.Starts, [2]int{}
	s.Breaker = 0
	if len(s.Past)%2 == 1 { // the next set is the second, fourth, sixth one and so on
		s.Breaker = 1
	}
	if s.Sets[player] >= m.Sets {
		s.Winner = player
	}
	return s
}

// literalLine returns the text of the score.
func literalLine(m match.Match, s match.State) string {
	pair := func(n [2]int) string { return fmt.Sprintf("%d:%d", n[0], n[1]) }
	var frames []string
	for _, set := range s.Past {
		frames = append(frames, pair(set))
	}
	if s.Frames[0] != m.Starts[0] || s.Frames[1] != m.Starts[1] {
		frames = append(frames, pair(s.Frames))
	}
	if frames == nil {
		return pair(s.Sets)
	}
	return fmt.Sprintf("%s (%s)", pair(s.Sets), strings.Join(frames, ", "))
}

// future is what can still happen in a match: how many frames are won at least, and at most, and the chance of the player 0.
type future struct {
	least, most int
	live        *big.Rat
}

// literalFuture returns the future of a match by all ways in which it goes on. Those of states before are known.
func literalFuture(m match.Match, s match.State, o match.Odds, known map[string]future) future {
	if s.Winner >= 0 {
		return future{live: big.NewRat(int64(1-s.Winner), 1)}
	}
	key := fmt.Sprint(s.Sets, s.Frames, s.Breaker)
	if f, ok := known[key]; ok {
		return f
	}
	f := future{least: 1 << 30, live: new(big.Rat)}
	for player, chance := range literalChances(o, s.Breaker) {
		next := literalFuture(m, literalFrame(m, s, player), o, known)
		f.least, f.most = min(f.least, next.least+1), max(f.most, next.most+1)
		f.live.Add(f.live, new(big.Rat).Mul(chance, next.live))
	}
	known[key] = f
	return f
}

// someMatch returns a match.
func someMatch(r *rand.Rand) match.Match {
	m := match.Match{Players: [2]string{"ann", "ben"}, Sets: 1 + r.Intn(3), Frames: 1 + r.Intn(4), Order: pick(r, orders()...), Clock: pick(r, 0, 1, 30, 600), Outs: r.Intn(3)}
	if happens(r, 2) {
		m.Starts = [2]int{r.Intn(m.Frames), r.Intn(m.Frames)}
	}
	return m
}

// someState returns a state of a match, which can be one that no log leads to.
func someState(r *rand.Rand, m match.Match) match.State {
	s := match.State{Breaker: r.Intn(2), Running: happens(r, 2), Winner: -1}
	for player := range 2 {
		s.Frames[player] = m.Starts[player] + r.Intn(m.Frames-m.Starts[player])
		s.Sets[player] = r.Intn(m.Sets)
		s.Outs[player] = r.Intn(m.Outs + 1)
		s.Warned[player] = s.Running && m.Clock > 0 && happens(r, 3)
	}
	if happens(r, 8) {
		s.Winner, s.Running, s.Warned = r.Intn(2), false, [2]bool{}
		if happens(r, 2) {
			s.Sets[s.Winner], s.Frames = m.Sets, m.Starts
		}
	}
	for player, n := range s.Sets {
		for range n {
			frames := [2]int{m.Frames, m.Frames}
			frames[1-player] = m.Starts[1-player] + r.Intn(m.Frames-m.Starts[1-player])
			s.Past = append(s.Past, frames)
		}
	}
	r.Shuffle(len(s.Past), func(i, j int) { s.Past[i], s.Past[j] = s.Past[j], s.Past[i] })
	return s
}

// someEntry returns an entry, which is often legal in a state.
func someEntry(r *rand.Rand, m match.Match, s match.State) match.Entry {
	e := match.Entry{Player: r.Intn(2), Kind: pick(r, "shot", "shot", "out", "frame", "frame", "concede")}
	if !s.Running && !happens(r, 5) {
		e.Kind = "break"
		if !happens(r, 5) {
			e.Player = s.Breaker
		}
	}
	if happens(r, 9) {
		e.Kind = pick(r, "break", "shot", "out", "frame", "concede", "leave")
	}
	if e.Kind == "shot" {
		e.Value = max(m.Clock+pick(r, -1, 0, 1, 1, 50), 0)
	}
	return e
}

func TestLiteralEntries(t *testing.T) {
	r := rand.New(rand.NewSource(73))
	seen := map[string]int{}
	for range 40000 {
		m := someMatch(r)
		s := someState(r, m)
		e := someEntry(r, m, s)
		what := fmt.Sprintf(" of %+v in %+v: %+v", e, m, s)
		want(t, "CheckState"+what, all(match.CheckState(m, s)), all(api.OK))
		want(t, "Line"+what, all(match.Line(m, s)), all(literalLine(m, s), api.OK))
		rule := literalRule(m, s, e)
		want(t, "Legal"+what, all(match.Legal(m, s, e)), all(rule, api.OK))
		seen[fmt.Sprint("rule ", rule)]++
		if rule != 0 {
			wantError(t, "Next"+what, all(match.Next(m, s, e)), api.ErrRule)
			continue
		}
		next := literalNext(m, s, e)
		want(t, "Next"+what, all(match.Next(m, s, e)), all(next, api.OK))
		want(t, "CheckState of Next"+what, all(match.CheckState(m, next)), all(api.OK))
		seen[fmt.Sprint(e.Kind, " wins ", next.Winner, ", new set ", len(next.Past) > len(s.Past))]++
	}
	for _, what := range []string{
		"rule 0", "rule 1", "rule 2", "rule 3", "rule 4", "rule 5", "rule 6",
		"frame wins -1, new set false", "frame wins -1, new set true", "frame wins 0, new set true", "frame wins 1, new set true", "concede wins 0, new set true",
		"shot wins -1, new set false", "shot wins -1, new set true", "shot wins 0, new set true", "leave wins 0, new set false", "leave wins 1, new set false", "out wins -1, new set false",
	} {
		if seen[what] < 40 {
			t.Errorf("%s was tried only %d times", what, seen[what])
		}
	}
}

// someLog returns a log of n entries, most of which are legal.
func someLog(r *rand.Rand, m match.Match, n int) []match.Entry {
	var l []match.Entry
	s := match.State{Frames: m.Starts, Winner: -1}
	for len(l) < n {
		e := someEntry(r, m, s)
		if e.Kind == "leave" && !happens(r, 9) {
			continue
		}
		l = append(l, e)
		if literalRule(m, s, e) == 0 {
			s = literalNext(m, s, e)
		}
	}
	return l
}

// literalReplay returns the state after a log, and what was set aside.
func literalReplay(m match.Match, l []match.Entry) (match.State, []match.Refusal) {
	s := match.State{Frames: m.Starts, Winner: -1}
	var refused []match.Refusal
	for i, e := range l {
		if rule := literalRule(m, s, e); rule != 0 {
			refused = append(refused, match.Refusal{Number: i + 1, Rule: rule})
		} else {
			s = literalNext(m, s, e)
		}
	}
	return s, refused
}

func TestLiteralLogs(t *testing.T) {
	r := rand.New(rand.NewSource(74))
	winners := map[int]int{}
	for range 2500 {
		m := someMatch(r)
		l := someLog(r, m, 1+r.Intn(60))
		what := fmt.Sprintf(" of %+v in %+v", l, m)
		s, refused := literalReplay(m, l)
		winners[s.Winner]++
		want(t, "Replay"+what, all(match.Replay(m, l)), all(s, refused, api.OK))
		n := r.Intn(len(l))
		s, refused = literalReplay(m, slices.Delete(slices.Clone(l), n, n+1))
		want(t, "Without"+what, all(match.Without(m, l, n+1)), all(s, refused, api.OK))
	}
	for winner := -1; winner <= 1; winner++ {
		if winners[winner] < 100 {
			t.Errorf("only %d matches were won by %d", winners[winner], winner)
		}
	}
}

func TestLiteralFutures(t *testing.T) {
	r := rand.New(rand.NewSource(75))
	for range 3000 {
		m, o := someMatch(r), someOdds(r)
		s := someState(r, m)
		what := fmt.Sprintf(" of %+v in %+v with %v", s, m, o)
		f := literalFuture(m, s, o, map[string]future{})
		want(t, "Remaining"+what, all(match.Remaining(m, s)), all([2]int{f.least, f.most}, api.OK))
		want(t, "Live"+what, all(match.Live(m, s, o)), all(written(f.live), api.OK))
	}
}

// literalStateError returns the error of a state of a match that has none.
func literalStateError(m match.Match, s match.State) api.Errno {
	isOut := func(n, low, high int) bool { return n < low || n > high }
	bad := isOut(s.Winner, -1, 1) || isOut(s.Breaker, 0, 1)
	for player := range 2 {
		bad = bad || isOut(s.Sets[player], 0, m.Sets) || isOut(s.Frames[player], m.Starts[player], m.Frames-1) || isOut(s.Outs[player], 0, m.Outs)
	}
	if bad {
		return api.ErrRange
	}
	if len(s.Past) != s.Sets[0]+s.Sets[1] {
		return api.ErrShape
	}
	var sets [2]int
	for _, frames := range s.Past {
		if isOut(frames[0], m.Starts[0], m.Frames) || isOut(frames[1], m.Starts[1], m.Frames) {
			return api.ErrRange
		}
		won := [2]bool{frames[0] == m.Frames, frames[1] == m.Frames}
		if won[0] && won[1] || !won[0] && !won[1] {
			return api.ErrForm
		}
		if won[0] {
			sets[0]++
		}
		if won[1] {
			sets[1]++
		}
	}
	if sets[0] != s.Sets[0] || sets[1] != s.Sets[1] {
		return api.ErrConflict
	}
	enough := [2]bool{s.Sets[0] == m.Sets, s.Sets[1] == m.Sets}
	isWarned := s.Warned[0] || s.Warned[1]
	if least(
		enough[0] && enough[1], enough[0] && s.Winner != 0, enough[1] && s.Winner != 1,
		!s.Running && isWarned, m.Clock == 0 && isWarned, s.Winner != -1 && s.Running,
	) > 0 {
		return api.ErrState
	}
	return api.OK
}

func TestLiteralStates(t *testing.T) {
	r := rand.New(rand.NewSource(76))
	seen := map[api.Errno]int{}
	for range 40000 {
		m := someMatch(r)
		s := someState(r, m)
		for range r.Intn(3) {
			number := pick(r, &s.Winner, &s.Breaker, &s.Sets[0], &s.Sets[1], &s.Frames[0], &s.Frames[1], &s.Outs[0], &s.Outs[1])
			switch r.Intn(7) {
			case 0, 1:
				*number += pick(r, -1, 1)
			case 2:
				*pick(r, &s.Running, &s.Warned[0], &s.Warned[1]) = happens(r, 2)
			case 3:
				s.Winner = pick(r, -1, 0, 1)
			case 4:
				if len(s.Past) > 0 {
					s.Past[r.Intn(len(s.Past))][r.Intn(2)] = r.Intn(m.Frames + 2)
				}
			default:
				for i, frames := range s.Past {
					s.Past[i] = [2]int{frames[1], frames[0]}
				}
			}
		}
		e := literalStateError(m, s)
		want(t, fmt.Sprintf("CheckState of %+v in %+v", s, m), all(match.CheckState(m, s)), all(e))
		seen[e]++
	}
	for _, e := range []api.Errno{api.OK, api.ErrRange, api.ErrShape, api.ErrForm, api.ErrConflict, api.ErrState} {
		if seen[e] < 100 {
			t.Errorf("the error %d was tried only %d times", e, seen[e])
		}
	}
}
