package pool_test

import (
	"fmt"
	"math"
	"math/rand"
	"strings"
	"testing"

	"baulk/api"
	"baulk/pool"
)

// Tests of P1: every function terminates and never panics, what stands beside an error is the zero value, and arguments
// and results share no memory.

// calls returns what all functions return for some arguments.
func calls(r pool.Rules, s pool.State, l, m []pool.Shot, n int, claims [][2]int, notation string) map[string][]any {
	x := m[0]
	results := map[string][]any{
		"CheckRules": all(pool.CheckRules(r)),
		"CheckShot":  all(pool.CheckShot(x)),
		"CheckLog":   all(pool.CheckLog(l)),
		"CheckState": all(pool.CheckState(r, s)),
		"Start":      all(pool.Start(r)),
		"Targets":    all(pool.Targets(r, s)),
		"Legal":      all(pool.Legal(r, s, x)),
		"Foul":       all(pool.Foul(r, s, x)),
		"Next":       all(pool.Next(r, s, x)),
		"Replay":     all(pool.Replay(r, l)),
		"Notes":      all(pool.Notes(r, l)),
		"Runs":       all(pool.Runs(r, l)),
		"Correct":    all(pool.Correct(l, n, x)),
		"Changed":    all(pool.Changed(r, l, m)),
		"Audit":      all(pool.Audit(r, l, claims)),
		"Print":      all(pool.Print(x)),
	}
	if read, number, e := pool.Parse(notation); e != api.ErrSyntax {
		results["Parse"] = all(read, number, e)
	}
	return results
}

// anyNumber returns a number, anyShot a shot, and anyLog a log of at least some entries; many of them are wrong.
func anyNumber(r *rand.Rand) int {
	return pick(r, 0, 1, 2, 5, 8, 9, 15, 16, -1, 6, 7, 200, 99999, 100000, math.MinInt, math.MaxInt)
}

func anyShot(r *rand.Rand) pool.Shot {
	if chance(r, 2) {
		return someShot(r, eight(0), playing(eight(0)))
	}
	x := pool.Shot{Player: r.Intn(3), Kind: pick(r, append(kinds(), "", "x")...), Ball: anyNumber(r), Pocket: anyNumber(r), First: anyNumber(r), Cushion: chance(r, 2)}
	for range pick(r, 0, 1, 2, 20, 1000) {
		x.Pots = append(x.Pots, pool.Pot{Ball: anyNumber(r), Pocket: anyNumber(r)})
	}
	return x
}

func anyLog(r *rand.Rand, least int) []pool.Shot {
	var l []pool.Shot
	for range least + pick(r, 0, 1, 3, 9) {
		l = append(l, anyShot(r))
	}
	return l
}

func TestArgumentsOfAnyForm(t *testing.T) {
	r := rand.New(rand.NewSource(71))
	n := func() int { return anyNumber(r) }
	for range 3000 {
		rules := pick(r, append(games(), pool.Rules{}, pool.Rules{Game: pick(r, "straight", "eight", "nine", ""), Target: n(), Fouls: n()})...)
		s := pool.State{Turn: n(), Break: chance(r, 2), Push: chance(r, 2), Group: n(), Balls: []int{n(), n()}, Scores: [2]int{n(), n()}, Fouls: [2]int{n(), n()}, Run: n(), Racks: n(), Over: chance(r, 2), Winner: n()}
		if chance(r, 2) && pool.CheckRules(rules) == api.OK {
			s = someState(r, rules)
		}
		claims := make([][2]int, r.Intn(4))
		notation := strings.Repeat(pick(r, "a", "b pass", " ", "+", "a play f1 p"), r.Intn(5000))
		for what, got := range calls(rules, s, anyLog(r, 0), anyLog(r, 1), n(), claims, notation) {
			wantError(t, what, got, got[len(got)-1].(api.Errno))
		}
	}
}

func TestLongLogs(t *testing.T) {
	// The limits of a log lead to no score, run or rack out of its range.
	rules := straight(200, 2)
	l := []pool.Shot{shot(t, "a break f1 +")}
	for len(l) < api.MaxShots {
		l = append(l, shot(t, "b safety"), shot(t, "a safety f1 +"), shot(t, "b safety"), shot(t, "b break f1 +"), shot(t, "a safety f1 +"))
	}
	s, refused, e := pool.Replay(rules, l[:api.MaxShots])
	want(t, "the score of a bad player", all(s.Scores, s.Racks, len(refused), e), all([2]int{0, -17 * 200}, 201, 0, api.OK))
	wantError(t, "Replay of more shots", all(pool.Replay(rules, append(l[:api.MaxShots:api.MaxShots], l[1]))), api.ErrMany)
}

func TestArgumentsAreKept(t *testing.T) {
	arguments := func() (pool.State, []pool.Shot, []pool.Shot, [][2]int) {
		s := pool.State{Racks: 1, Balls: []int{2, 3, 8, 9, 10}, Scores: [2]int{3, 4}}
		return s, mixed(t), log(t, "a play c2/1 f2 p3/1 p2/1", "a break f1 p8/1"), make([][2]int, 13)
	}
	s, l, m, claims := arguments()
	before := fmt.Sprint(arguments())
	first := fmt.Sprint(calls(eight(3), s, l, m, 2, claims, "a play c2/1"))
	if after := fmt.Sprint(s, l, m, claims); after != before {
		t.Errorf("the arguments %s become %s", before, after)
	}
	if again := fmt.Sprint(calls(eight(3), s, l, m, 2, claims, "a play c2/1")); first != again {
		t.Errorf("the results %s become %s", first, again)
	}
}

// spoil overwrites a list, as far as it has memory.
func spoil[T any](l []T) {
	var zero T
	for i := range cap(l) {
		l[:cap(l)][i] = zero
	}
}

func TestResultsAreNewMemory(t *testing.T) {
	for _, r := range games() {
		s := playing(r)
		for _, x := range []pool.Shot{shot(t, "a safety f1 +"), shot(t, "b concede"), shot(t, "a safety p0/1")} {
			next, _ := pool.Next(r, s, x)
			spoil(next.Balls)
		}
		targets, _ := pool.Targets(r, s)
		spoil(targets)
		want(t, "the state", all(s), all(playing(r)))
		first, _ := pool.Start(r)
		spoil(first.Balls)
		replayed, _, _ := pool.Replay(r, nil)
		spoil(replayed.Balls)
		want(t, "Start", all(pool.Start(r)), all(begun(r), api.OK))
	}
	l, x := mixed(t), shot(t, "a play c3/1 f3 p3/1")
	corrected, _ := pool.Correct(l, 2, x)
	for i := range corrected {
		spoil(corrected[i].Pots)
	}
	spoil(corrected)
	want(t, "the log", all(l), all(mixed(t)))
	want(t, "the shot", all(x), all(shot(t, "a play c3/1 f3 p3/1")))
}

func TestPotsOfACorrectedLogAreApart(t *testing.T) {
	x := shot(t, "a safety f3 p3/1")
	shared := []pool.Shot{x, x, x}
	corrected, _ := pool.Correct(shared, 2, x)
	for i := range corrected {
		corrected[i].Pots = append(corrected[i].Pots[:0], pool.Pot{Ball: i, Pocket: 6})
	}
	for i := range corrected {
		want(t, "the pots", all(corrected[i].Pots), all(pots(6, i)))
	}
	want(t, "the shot", all(x), all(shot(t, "a safety f3 p3/1")))
}
