package match_test

import (
	"fmt"
	"math"
	"math/rand"
	"slices"
	"testing"

	"baulk/api"
	"baulk/match"
)

// Tests of P1: every function terminates and never panics, what stands beside an error is the zero value, and arguments
// and results share no memory.

// arguments are those of all functions.
type arguments struct {
	o             match.Odds
	r             match.Race
	frames, start int
	chance        api.Rat
	m             match.Match
	s             match.State
	e             match.Entry
	l             []match.Entry
	n             int
}

// calls returns what all functions return for some arguments.
func calls(a arguments) map[string][]any {
	return map[string][]any{
		"CheckOdds":  all(match.CheckOdds(a.o)),
		"CheckRace":  all(match.CheckRace(a.r)),
		"Chance":     all(match.Chance(a.o, a.r)),
		"Scores":     all(match.Scores(a.o, a.r)),
		"Expected":   all(match.Expected(a.o, a.r)),
		"Given":      all(match.Given(a.frames, a.start, a.r.Order, a.r.Breaker)),
		"Fairest":    all(match.Fairest(a.o, a.frames, a.r.Order, a.r.Breaker)),
		"Least":      all(match.Least(a.o, a.frames, a.r.Order, a.r.Breaker, a.chance)),
		"CheckMatch": all(match.CheckMatch(a.m)),
		"CheckState": all(match.CheckState(a.m, a.s)),
		"CheckLog":   all(match.CheckLog(a.m, a.l)),
		"Start":      all(match.Start(a.m)),
		"Legal":      all(match.Legal(a.m, a.s, a.e)),
		"Next":       all(match.Next(a.m, a.s, a.e)),
		"Replay":     all(match.Replay(a.m, a.l)),
		"Without":    all(match.Without(a.m, a.l, a.n)),
		"Line":       all(match.Line(a.m, a.s)),
		"Live":       all(match.Live(a.m, a.s, a.o)),
		"Remaining":  all(match.Remaining(a.m, a.s)),
	}
}

// anyNumber returns a number, anyRat a rational number, anyOrder an order of breaks, anyEntry an entry, and anyArguments
// arguments of all functions; many of them are wrong.
func anyNumber(r *rand.Rand) int {
	return pick(r, 0, 0, 0, 1, 1, 1, 2, 2, 3, 16, 32, 33, -1, 999999999, 1000000000, math.MinInt, math.MaxInt)
}

func anyRat(r *rand.Rand) api.Rat {
	return pick(r, "0", "1", "1/2", "1/2", "2/3", "1/3", "-1/3", "4/3", "", "x", "2/4", "-0", "1/0", "1/"+digits(600, 1), "1/"+digits(601, 1))
}

func anyOrder(r *rand.Rand) string { return pick(r, append(orders(), orders()[0], "", "x")...) }

func anyEntry(r *rand.Rand) match.Entry {
	return match.Entry{Player: anyNumber(r), Kind: pick(r, "break", "shot", "out", "frame", "concede", "leave", "", "x"), Value: anyNumber(r)}
}

func anyArguments(r *rand.Rand) arguments {
	n := func() int { return anyNumber(r) }
	two := func() [2]int { return [2]int{n(), n()} }
	a := arguments{o: odds(anyRat(r), anyRat(r)), frames: n(), start: n(), chance: anyRat(r), n: n(), e: anyEntry(r)}
	a.r = match.Race{Need: two(), Order: anyOrder(r), Breaker: n()}
	a.m = match.Match{Players: [2]string{pick(r, "a", "b", ""), pick(r, "a", "b")}, Sets: n(), Frames: n(), Order: anyOrder(r), Starts: two(), Clock: n(), Outs: n()}
	a.s = match.State{Sets: two(), Frames: two(), Past: [][2]int{two(), two(), two()}[:r.Intn(4)], Breaker: n(), Outs: two(), Warned: [2]bool{happens(r, 2), happens(r, 2)}, Running: happens(r, 2), Winner: n()}
	a.l = []match.Entry{anyEntry(r), anyEntry(r)}
	if happens(r, 2) {
		a.m = someMatch(r)
		if happens(r, 2) {
			a.s, a.l = someState(r, a.m), someLog(r, a.m, r.Intn(5))
			a.e = pick(r, a.e, someEntry(r, a.m, a.s))
		}
	}
	return a
}

func TestArgumentsOfAnyForm(t *testing.T) {
	r := rand.New(rand.NewSource(91))
	errors := map[string]int{}
	for range 6000 {
		for what, got := range calls(anyArguments(r)) {
			e := got[len(got)-1].(api.Errno)
			wantError(t, what, got, e)
			if e == api.OK {
				errors[what]++
			}
		}
	}
	for what := range calls(arguments{}) {
		if errors[what] < 10 {
			t.Errorf("%s had no error only %d times", what, errors[what])
		}
	}
}

func TestLargestArguments(t *testing.T) {
	// Odds of 600 digits, races to 32 and matches of 31 sets: what is computed on the way has up to two million digits.
	long := odds(digits(600, 0)+"/"+nines(600), digits(599, 0)+"/"+digits(600, 1))
	for i, order := range orders() {
		a := arguments{o: long, r: race(32, 32, order), frames: []int{32, 8, 8}[i], chance: digits(600, 0) + "/" + nines(600), m: match.Match{Players: [2]string{"a", "b"}, Sets: 16, Frames: 32, Order: order}, n: 1}
		a.s, a.e = beginning(a.m), entry("break 0")
		for len(a.l) < api.MaxShots {
			a.l = append(a.l, entries("break 0, break 1, shot 0 99, frame 0, frame 1")...)
		}
		got := calls(a)
		for _, what := range []string{"Chance", "Scores", "Expected", "Live"} {
			wantError(t, what, got[what], api.ErrLarge)
		}
		for _, what := range []string{"Fairest", "Least", "Replay", "Without", "Remaining"} {
			wantError(t, what, got[what], api.OK)
		}
	}
}

func TestArgumentsAreKept(t *testing.T) {
	some := func() arguments {
		m, s := middle()
		s.Frames[1] = 2
		return arguments{o: odds("1/2", "2/3"), r: race(3, 2, "winner"), frames: 3, start: -1, chance: "1/7", m: m, s: s, e: entry("frame 0"), l: entries(mixed), n: 3}
	}
	a := some()
	first := fmt.Sprint(calls(a))
	if after := fmt.Sprint(a); after != fmt.Sprint(some()) {
		t.Errorf("the arguments become %s", after)
	}
	if again := fmt.Sprint(calls(a)); first != again {
		t.Errorf("the results %s become %s", first, again)
	}
}

// spoil overwrites a list, as far as it has memory.
func spoil[T any](l []T) {
	var zero T
	for i := range cap(l) {
		l[:cap(l)][i] = zero
	}
}

func TestResultsAreNewMemory(t *testing.T) {
	m, s := middle()
	m.Sets = 3
	// The list of sets has more room than it needs, into which nothing may be written.
	s.Past = append(make([][2]int, 0, 8), s.Past...)
	past := slices.Clone(s.Past)
	for _, text := range []string{"out 1", "shot 0 99", "leave 1", "frame 1", "frame 0"} {
		next, e := match.Next(m, s, entry(text))
		wantError(t, "Next", all(next, e), api.OK)
		again, _ := match.Next(m, s, entry(text))
		before := fmt.Sprint(again)
		spoil(next.Past)
		want(t, "the sets before "+text, all(s.Past), all(past))
		want(t, "the room behind them", all(s.Past[:3][2]), all([2]int{}))
		want(t, "another result of "+text, all(fmt.Sprint(again)), all(before))
	}
	l := entries(mixed)
	state, refused, _ := match.Replay(m, l)
	spoil(state.Past)
	spoil(refused)
	state, refused, _ = match.Without(m, l, 7)
	spoil(state.Past)
	spoil(refused)
	list, _ := match.Scores(odds("1/2", "1/2"), race(2, 2, "winner"))
	spoil(list)
	want(t, "the log", all(l), all(entries(mixed)))
	// There is more room in the log, too.
	room := append(make([]match.Entry, 0, 64), l...)
	match.Without(m, room, 2)
	want(t, "the log with room", all(room), all(entries(mixed)))
}
