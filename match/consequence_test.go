package match_test

import (
	"fmt"
	"math/rand"
	"slices"
	"testing"

	"baulk/api"
	"baulk/match"
	"baulk/number"
)

// Tests of P7.6 (consequences), for many races and matches.

// someRace returns odds and a race to at most n frames.
func someRace(r *rand.Rand, n int) (match.Odds, match.Race) {
	return someOdds(r), match.Race{Need: [2]int{1 + r.Intn(n), 1 + r.Intn(n)}, Order: pick(r, orders()...), Breaker: r.Intn(2)}
}

// sum returns the sum of chances, mean a p + b (1 - p), order the order of two numbers.
func sum(t *testing.T, list ...api.Rat) api.Rat {
	t.Helper()
	total := api.Rat("0")
	for _, x := range list {
		var e api.Errno
		if total, e = number.Add(total, x); e != api.OK {
			t.Fatalf("the sum of %v: %d", list, e)
		}
	}
	return total
}

func mean(t *testing.T, p, a, b api.Rat) api.Rat {
	t.Helper()
	rest, _ := number.Sub("1", p)
	first, _ := number.Mul(p, a)
	second, _ := number.Mul(rest, b)
	return sum(t, first, second)
}

func order(t *testing.T, a, b api.Rat) int {
	t.Helper()
	n, e := number.Order(a, b)
	wantError(t, "Order", all(n, e), api.OK)
	return n
}

func TestChancesAddUp(t *testing.T) {
	r := rand.New(rand.NewSource(81))
	for range 400 {
		o, x := someRace(r, 32)
		what := fmt.Sprintf(" of %+v with %v", x, o)
		list, e := match.Scores(o, x)
		wantError(t, "Scores"+what, all(list, e), api.OK)
		var chances, first, frames []api.Rat
		for _, s := range list {
			chances = append(chances, s.Chance)
			if s.Frames[0] == x.Need[0] {
				first = append(first, s.Chance)
			}
			n, _ := number.Of(s.Frames[0]+s.Frames[1], 1)
			part, _ := number.Mul(n, s.Chance)
			frames = append(frames, part)
		}
		want(t, "the sum"+what, all(sum(t, chances...)), all(api.Rat("1")))
		want(t, "Chance"+what, all(match.Chance(o, x)), all(sum(t, first...), api.OK))
		want(t, "Expected"+what, all(match.Expected(o, x)), all(sum(t, frames...), api.OK))
	}
}

func TestFramesOfStart(t *testing.T) {
	r := rand.New(rand.NewSource(82))
	for range 150 {
		o, x := someRace(r, 1)
		frames := 1 + r.Intn(12)
		half := api.Rat("1/2")
		wanted := someChance(r)
		fairest, _ := match.Fairest(o, frames, x.Order, x.Breaker)
		least, leastError := match.Least(o, frames, x.Order, x.Breaker, wanted)
		far := func(chance api.Rat) api.Rat {
			d, _ := number.Sub(chance, half)
			if order(t, d, "0") < 0 {
				d, _ = number.Sub("0", d)
			}
			return d
		}
		chances := map[int]api.Rat{}
		for start := 1 - frames; start < frames; start++ {
			given, _ := match.Given(frames, start, x.Order, x.Breaker)
			chances[start], _ = match.Chance(o, given)
			what := fmt.Sprintf("the start %d of %d frames with %v, %s, %d", start, frames, o, x.Order, x.Breaker)
			if before, ok := chances[start-1]; ok && order(t, chances[start], before) > 0 {
				t.Errorf("%s raises the chance", what)
			}
			second, _ := number.Sub("1", chances[start])
			isEnough := order(t, second, wanted) >= 0
			if isEnough != (leastError == api.OK && start >= least) {
				t.Errorf("%s: %s for the second player, at least %s is wanted, and %d is the least start (%d)", what, second, wanted, least, leastError)
			}
		}
		for start, chance := range chances {
			if order(t, far(chance), far(chances[fairest])) < 0 {
				t.Errorf("the start %d is fairer than %d", start, fairest)
			}
		}
	}
}

func TestEqualPlayers(t *testing.T) {
	for n := 1; n <= 32; n++ {
		for _, order := range orders() {
			for breaker := range 2 {
				r := match.Race{Need: [2]int{n, n}, Order: order, Breaker: breaker}
				want(t, "Chance by halves", all(match.Chance(odds("1/2", "1/2"), r)), all(api.Rat("1/2"), api.OK))
				want(t, "Fairest by halves", all(match.Fairest(odds("1/2", "1/2"), n, order, breaker)), all(0, api.OK))
			}
		}
	}
	// With equal odds in all frames the order of breaks does not matter.
	r := rand.New(rand.NewSource(83))
	for range 200 {
		p := someChance(r)
		_, x := someRace(r, 32)
		chance, e := match.Chance(odds(p, p), x)
		x.Order, x.Breaker = pick(r, orders()...), r.Intn(2)
		want(t, "Chance in another order", all(match.Chance(odds(p, p), x)), all(chance, e))
	}
}

func TestBothPlayersExchanged(t *testing.T) {
	r := rand.New(rand.NewSource(84))
	for range 300 {
		o, x := someRace(r, 20)
		chance, _ := match.Chance(o, x)
		own, _ := number.Sub("1", o.Other)
		other, _ := number.Sub("1", o.Own)
		y := match.Race{Need: [2]int{x.Need[1], x.Need[0]}, Order: x.Order, Breaker: 1 - x.Breaker}
		rest, _ := number.Sub("1", chance)
		want(t, fmt.Sprintf("the other player of %+v with %v", x, o), all(match.Chance(odds(own, other), y)), all(rest, api.OK))
	}
}

// won returns the state after the next frame, which a player wins.
func won(t *testing.T, m match.Match, s match.State, player int) match.State {
	t.Helper()
	if !s.Running {
		next, e := match.Next(m, s, match.Entry{Player: s.Breaker, Kind: "break"})
		wantError(t, "Next for a break", all(next, e), api.OK)
		s = next
	}
	next, e := match.Next(m, s, match.Entry{Player: player, Kind: "frame"})
	wantError(t, "Next for a frame", all(next, e), api.OK)
	return next
}

func TestFrameByFrame(t *testing.T) {
	r := rand.New(rand.NewSource(85))
	for range 1500 {
		m, o := someMatch(r), someOdds(r)
		s := someState(r, m)
		if s.Winner >= 0 {
			continue
		}
		what := fmt.Sprintf(" of %+v in %+v with %v", s, m, o)
		var lives [2]api.Rat
		var remaining [2][2]int
		for player := range 2 {
			next := won(t, m, s, player)
			want(t, "CheckState after a frame"+what, all(match.CheckState(m, next)), all(api.OK))
			lives[player], _ = match.Live(m, next, o)
			remaining[player], _ = match.Remaining(m, next)
		}
		now, _ := match.Remaining(m, s)
		for _, after := range remaining {
			if after[1] >= now[1] || after[0] < now[0]-1 || after[0] > after[1] {
				t.Errorf("%v frames remain, and then %v%s", now, after, what)
			}
		}
		want(t, "Remaining"+what, all(now), all([2]int{1 + min(remaining[0][0], remaining[1][0]), 1 + max(remaining[0][1], remaining[1][1])}))
		p := []api.Rat{o.Own, o.Other}[s.Breaker]
		want(t, "Live"+what, all(match.Live(m, s, o)), all(mean(t, p, lives[0], lives[1]), api.OK))
	}
}

func TestEntryByEntry(t *testing.T) {
	r := rand.New(rand.NewSource(86))
	for range 800 {
		m := someMatch(r)
		l := someLog(r, m, r.Intn(70))
		s, e := match.Start(m)
		wantError(t, "Start", all(s, e), api.OK)
		var legal []match.Entry
		var refused []match.Refusal
		remaining, _ := match.Remaining(m, s)
		frames := 0
		for i, x := range l {
			rule, e := match.Legal(m, s, x)
			wantError(t, "Legal", all(rule, e), api.OK)
			if rule != 0 {
				refused = append(refused, match.Refusal{Number: i + 1, Rule: rule})
				continue
			}
			next, e := match.Next(m, s, x)
			wantError(t, "Next", all(next, e), api.OK)
			want(t, "CheckState", all(match.CheckState(m, next)), all(api.OK))
			if s.Running && !next.Running && x.Kind != "leave" {
				frames++
			}
			s = next
			legal = append(legal, x)
		}
		if frames > remaining[1] {
			t.Errorf("%d frames of at most %d", frames, remaining[1])
		}
		want(t, "the state at once", all(match.Replay(m, l)), all(s, refused, api.OK))
		want(t, "the state without what is set aside", all(match.Replay(m, legal)), all(s, []match.Refusal(nil), api.OK))
		for i, x := range refused {
			others := slices.Clone(refused[:i])
			for _, y := range refused[i+1:] {
				others = append(others, match.Refusal{Number: y.Number - 1, Rule: y.Rule})
			}
			want(t, "Without what is set aside", all(match.Without(m, l, x.Number)), all(s, others, api.OK))
		}
	}
}

func TestLinesTellTheState(t *testing.T) {
	r := rand.New(rand.NewSource(87))
	lines := map[string]string{}
	m := match.Match{Players: [2]string{"a", "b"}, Sets: 2, Frames: 3, Order: "winner", Starts: [2]int{1, 0}}
	for range 5000 {
		s := someState(r, m)
		line, e := match.Line(m, s)
		wantError(t, "Line", all(line, e), api.OK)
		frames := fmt.Sprint(s.Sets, s.Past, s.Frames)
		if before, ok := lines[line]; ok && before != frames {
			t.Errorf("%s is the line of %s and of %s", line, before, frames)
		}
		lines[line] = frames
	}
}
