package snooker_test

import (
	"fmt"
	"math"
	"math/big"
	"math/rand"
	"slices"
	"testing"

	"baulk/api"
	"baulk/snooker"
)

// Tests of P1: every function terminates and never panics, what stands beside an error is the zero value, and arguments
// and results share no memory.

// arguments are those of all functions.
type arguments struct {
	g            snooker.Game
	s            snooker.State
	l            []snooker.Entry
	e            snooker.Entry
	n            int
	scores       [][2]int
	ball         string
	spots, balls []api.Place
	along        api.Place
	diameter     api.Rat
	far          api.Surd
}

// calls returns what all functions return for some arguments.
func calls(a arguments) map[string][]any {
	return map[string][]any{
		"CheckGame":   all(snooker.CheckGame(a.g)),
		"CheckState":  all(snooker.CheckState(a.g, a.s)),
		"CheckEntry":  all(snooker.CheckEntry(a.g, a.e)),
		"CheckLog":    all(snooker.CheckLog(a.g, a.l)),
		"Start":       all(snooker.Start(a.g)),
		"Value":       all(snooker.Value(a.ball)),
		"On":          all(snooker.On(a.g, a.s)),
		"Legal":       all(snooker.Legal(a.g, a.s, a.e)),
		"Judge":       all(snooker.Judge(a.g, a.s, a.e)),
		"Next":        all(snooker.Next(a.g, a.s, a.e)),
		"Replay":      all(snooker.Replay(a.g, a.l)),
		"Breaks":      all(snooker.Breaks(a.g, a.l, a.n)),
		"Left":        all(snooker.Left(a.g, a.s)),
		"Needed":      all(snooker.Needed(a.g, a.s, a.n)),
		"Audit":       all(snooker.Audit(a.g, a.l, a.scores)),
		"Respot":      all(snooker.Respot(a.spots, a.balls, a.n, a.along, a.diameter)),
		"CheckRespot": all(snooker.CheckRespot(a.spots, a.balls, a.n, a.along, a.diameter, a.far)),
		"Line":        all(snooker.Line(a.g, a.s)),
	}
}

// anyNumber returns a number, anyBall a name, anyRat a rational number, anyPlaces places, anyEntry an entry, and
// anyArguments arguments of all functions; many of them are wrong.
func anyNumber(r *rand.Rand) int {
	return pick(r, 0, 0, 1, 1, 2, 7, 8, -1, 15, 99999, 100000, math.MinInt, math.MaxInt)
}

func anyBall(r *rand.Rand) string { return pick(r, append(colours(0, 7), "", "x")...) }

func anyRat(r *rand.Rand) api.Rat {
	return pick[api.Rat](r, "0", "1", "2", "-3", "1/2", "7/3", "", "x", "2/2", "-0", "1/0")
}

func anyPlaces(r *rand.Rand, most int) []api.Place {
	var list []api.Place
	for range r.Intn(most + 2) {
		p := api.Place{X: pick[api.Rat](r, "0", "1", "-3", "1/2"), Y: pick[api.Rat](r, "0", "1", "-3", "1/2")}
		if chance(r, 30) {
			p.Y = anyRat(r)
		}
		list = append(list, p)
	}
	return list
}

func anyEntry(r *rand.Rand) snooker.Entry {
	e := snooker.Entry{Kind: pick(r, "shot", "shot", "again", "free", "concede", "", "x"), Called: anyBall(r), Cushions: anyNumber(r)}
	for range pick(r, 0, 1, 2, 23) {
		e.Hits = append(e.Hits, anyBall(r))
		e.Pots = append(e.Pots, anyBall(r))
	}
	return e
}

func anyArguments(r *rand.Rand) arguments {
	n := func() int { return anyNumber(r) }
	a := arguments{n: n(), ball: anyBall(r), e: anyEntry(r), scores: make([][2]int, r.Intn(4))}
	a.g = pick(r, append(games(), snooker.Game{}, snooker.Game{Kind: pick(r, "snooker", "billiards", "carom", ""), Reds: n(), Target: n(), Turns: n()})...)
	a.s = snooker.State{Turn: n(), Scores: [2]int{n(), n()}, Break: n(), Phase: pick(r, "red", "colour", "final", "play", ""), Reds: n(), Colour: n(), Free: chance(r, 2), Fouled: chance(r, 2), Streak: n(), Turns: [2]int{n(), n()}, Winner: n()}
	a.l = []snooker.Entry{anyEntry(r), anyEntry(r)}
	if snooker.CheckGame(a.g) == api.OK && chance(r, 2) {
		a.s = someState(r, a.g)
		a.e = pick(r, a.e, someEntry(r, a.g, a.s))
		a.l = someLog(r, a.g, r.Intn(4))
	}
	a.spots, a.balls = anyPlaces(r, 6), anyPlaces(r, 24)
	a.along, a.diameter, a.far = append(anyPlaces(r, 2), api.Place{X: "1", Y: "0"})[0], anyRat(r), surd(anyRat(r), anyRat(r), anyRat(r))
	return a
}

func TestArgumentsOfAnyForm(t *testing.T) {
	r := rand.New(rand.NewSource(71))
	for range 6000 {
		for what, got := range calls(anyArguments(r)) {
			wantError(t, what, got, got[len(got)-1].(api.Errno))
		}
	}
}

func TestLongLogs(t *testing.T) {
	// The limits of a log lead to no score that is too high: the rule 5 is for states alone.
	var l []snooker.Entry
	for len(l) < api.MaxShots {
		l = append(l, shot("", "black", ""))
	}
	s, refused, e := snooker.Replay(reds(15), l)
	want(t, "the scores of bad players", all(s.Scores, len(refused), e), all([2]int{3500, 3500}, 0, api.OK))
}

func TestLargestPlaces(t *testing.T) {
	// Numbers of 600 digits everywhere: what is computed on the way is many times as long.
	long := func(i int) api.Rat {
		top := new(big.Int).Exp(big.NewInt(10), big.NewInt(599), nil)
		return api.Rat(top.Add(top, big.NewInt(int64(2*i+1))).String() + "/" + digits(600))
	}
	var spots, balls []api.Place
	for i := range 6 {
		spots = append(spots, api.Place{X: long(5*i + 1), Y: long(5*i + 3)})
	}
	for i := range 24 {
		balls = append(balls, api.Place{X: long(5*i + 5), Y: long(5*i + 6)})
	}
	along := api.Place{X: long(1), Y: long(3)}
	wantError(t, "Respot", all(snooker.Respot(spots, balls, 3, along, "1/3")), api.ErrLarge)
	want(t, "CheckRespot", all(snooker.CheckRespot(spots, balls, 3, along, "1/3", surd(long(1), long(3), long(5)))), all(api.OK))
	want(t, "CheckRespot nearby", all(snooker.CheckRespot(spots, balls, 3, along, "1/3", surd("0", "1/"+api.Rat(digits(600)), long(5)))), all(api.ErrOverlap))
}

func TestArgumentsAreKept(t *testing.T) {
	some := func() arguments {
		l, scores := mixed()
		return arguments{
			g: reds(2), s: state("red", withReds(2)), l: l, scores: scores, e: shot("", "red black", "red black white"),
			spots: places("0 0", "1 0"), balls: places("0 1", "1 0", "2 0"), n: 1, along: place("1 0"), diameter: "2", far: surd("1", "1", "7"),
		}
	}
	a := some()
	first := fmt.Sprint(calls(a))
	if after := fmt.Sprint(a); after != fmt.Sprint(some()) {
		t.Errorf("the arguments become %s", after)
	}
	if again := fmt.Sprint(calls(a)); first != again {
		t.Errorf("the results %s become %s", first, again)
	}
}

// spoil overwrites a list, as far as it has memory.
func spoil[T any](l []T) {
	var zero T
	for i := range cap(l) {
		l[:cap(l)][i] = zero
	}
}

func TestResultsAreNewMemory(t *testing.T) {
	for _, s := range []snooker.State{state("red", isFree), state("colour"), state("final", isFree)} {
		on, _ := snooker.On(reds(1), s)
		before := slices.Clone(on)
		spoil(on)
		want(t, "On", all(snooker.On(reds(1), s)), all(before, api.OK))
	}
	on, _ := snooker.On(carom(1, 1), state("play"))
	spoil(on)
	want(t, "On in carom", all(snooker.On(carom(1, 1), state("play"))), all([]string{"yellow", "red"}, api.OK))
	l, _ := mixed()
	_, refused, _ := snooker.Replay(reds(2), l)
	spoil(refused)
	breaks, _ := snooker.Breaks(reds(2), l, 0)
	spoil(breaks)
	want(t, "Breaks", all(snooker.Breaks(reds(2), l, 0)), all([]int{7, 2}, api.OK))
	other, _ := mixed()
	want(t, "the log", all(l), all(other))
}
