package match_test

import (
	"fmt"
	"math/big"
	"strings"
	"testing"

	"baulk/api"
	"baulk/match"
)

// Tests of P7.1 (races).

// scores returns results by their text: frames and chances, with blanks between them.
func scores(text string) []match.Score {
	var list []match.Score
	for _, line := range strings.Split(text, ", ") {
		var s match.Score
		fmt.Sscan(line, &s.Frames[0], &s.Frames[1], &s.Chance)
		list = append(list, s)
	}
	return list
}

func TestRaces(t *testing.T) {
	half, thirds := odds("1/2", "1/2"), odds("2/3", "2/3")
	last := func(r match.Race) match.Race {
		r.Breaker = 1
		return r
	}
	for _, row := range []struct {
		name     string
		o        match.Odds
		r        match.Race
		chance   api.Rat
		scores   string
		expected api.Rat
	}{
		{"example 1", thirds, race(2, 2, "alternate"), "20/27", "2 0 4/9, 2 1 8/27, 0 2 1/9, 1 2 4/27", "22/9"},
		{"example 1, winner", thirds, race(2, 2, "winner"), "20/27", "2 0 4/9, 2 1 8/27, 0 2 1/9, 1 2 4/27", "22/9"},
		{"example 2", odds("1", "0"), race(2, 2, "alternate"), "1", "2 1 1", "3"},
		{"example 2, for the other one", odds("1", "0"), last(race(2, 2, "alternate")), "0", "1 2 1", "3"},
		{"example 2, winner", odds("1", "0"), race(2, 2, "winner"), "1", "2 0 1", "2"},
		{"example 2, winner, for the other one", odds("1", "0"), last(race(2, 2, "winner")), "0", "0 2 1", "2"},
		{"example 2, loser", odds("1", "0"), race(2, 2, "loser"), "1", "2 1 1", "3"},
		{"breaks are lost", odds("0", "1"), race(2, 2, "alternate"), "0", "1 2 1", "3"},
		{"breaks are lost, winner", odds("0", "1"), race(2, 2, "winner"), "0", "1 2 1", "3"},
		{"breaks are lost, loser", odds("0", "1"), race(2, 2, "loser"), "0", "0 2 1", "2"},
		{"always won", odds("1", "1"), race(32, 1, "loser"), "1", "32 0 1", "32"},
		{"always lost", odds("0", "0"), race(1, 32, "winner"), "0", "0 32 1", "32"},
		{"one frame", odds("2/7", "3/5"), race(1, 1, "winner"), "2/7", "1 0 2/7, 0 1 5/7", "1"},
		{"one frame of the other one", odds("2/7", "3/5"), last(race(1, 1, "loser")), "3/5", "1 0 3/5, 0 1 2/5", "1"},
		{"two to one", odds("1/2", "1/3"), race(2, 1, "alternate"), "1/6", "2 0 1/6, 0 1 1/2, 1 1 1/3", "3/2"},
		{"two to one, winner", odds("1/2", "1/3"), race(2, 1, "winner"), "1/4", "2 0 1/4, 0 1 1/2, 1 1 1/4", "3/2"},
		{"two to one, loser", odds("1/2", "1/3"), race(2, 1, "loser"), "1/6", "2 0 1/6, 0 1 1/2, 1 1 1/3", "3/2"},
		{"two to one, of the other one", odds("1/2", "1/3"), last(race(2, 1, "alternate")), "1/6", "2 0 1/6, 0 1 2/3, 1 1 1/6", "4/3"},
		{"two to one, winner, of the other one", odds("1/2", "1/3"), last(race(2, 1, "winner")), "1/6", "2 0 1/6, 0 1 2/3, 1 1 1/6", "4/3"},
		{"two to one, loser, of the other one", odds("1/2", "1/3"), last(race(2, 1, "loser")), "1/9", "2 0 1/9, 0 1 2/3, 1 1 2/9", "4/3"},
		{"one to two, loser", odds("1/2", "1/3"), race(1, 2, "loser"), "3/4", "1 0 1/2, 1 1 1/4, 0 2 1/4", "3/2"},
		{"one to two, winner", odds("1/2", "1/3"), race(1, 2, "winner"), "2/3", "1 0 1/2, 1 1 1/6, 0 2 1/3", "3/2"},
		{"to three by halves", half, race(3, 3, "alternate"), "1/2", "3 0 1/8, 3 1 3/16, 3 2 3/16, 0 3 1/8, 1 3 3/16, 2 3 3/16", "33/8"},
		{"one of them is certain", odds("1", "1/2"), race(2, 2, "alternate"), "1", "2 0 1/2, 2 1 1/2", "5/2"},
		{"one of them is certain, winner", odds("1", "1/2"), last(race(2, 2, "winner")), "3/4", "2 0 1/2, 2 1 1/4, 0 2 1/4", "9/4"},
	} {
		want(t, "Chance: "+row.name, all(match.Chance(row.o, row.r)), all(row.chance, api.OK))
		want(t, "Scores: "+row.name, all(match.Scores(row.o, row.r)), all(scores(row.scores), api.OK))
		want(t, "Expected: "+row.name, all(match.Expected(row.o, row.r)), all(row.expected, api.OK))
	}
}

func TestTheLongestRace(t *testing.T) {
	for _, order := range orders() {
		r := race(32, 32, order)
		want(t, "Chance by halves", all(match.Chance(odds("1/2", "1/2"), r)), all(api.Rat("1/2"), api.OK))
		list, e := match.Scores(odds("1/2", "1/2"), r)
		want(t, "Scores by halves", all(len(list), list[0], list[31], list[63], e),
			all(64, match.Score{Frames: [2]int{32, 0}, Chance: "1/4294967296"}, match.Score{Frames: [2]int{32, 31}, Chance: "14544636039226909/288230376151711744"}, match.Score{Frames: [2]int{31, 32}, Chance: "14544636039226909/288230376151711744"}, api.OK))
	}
}

func TestErrorsOfRaces(t *testing.T) {
	for _, row := range []struct {
		name string
		o    match.Odds
		r    match.Race
		e    api.Errno
	}{
		{"no odds", odds("", "2"), race(0, 1, ""), api.ErrForm},
		{"odds above 1", odds("2", ""), race(1, 1, ""), api.ErrRange},
		{"other odds that are none", odds("1/2", "x"), race(0, 1, "winner"), api.ErrForm},
		{"other odds above 1", odds("1/2", "2"), race(0, 1, ""), api.ErrRange},
		{"large odds", odds(digits(601, 1), "2"), race(0, 1, ""), api.ErrLarge},
		{"no need", odds("1/2", "1/2"), race(0, 1, ""), api.ErrRange},
		{"no order", odds("1/2", "1/2"), race(1, 1, ""), api.ErrKind},
		{"no breaker", odds("1/2", "1/2"), match.Race{Need: [2]int{1, 1}, Order: "winner", Breaker: 2}, api.ErrRange},
	} {
		wantError(t, "Chance: "+row.name, all(match.Chance(row.o, row.r)), row.e)
		wantError(t, "Scores: "+row.name, all(match.Scores(row.o, row.r)), row.e)
		wantError(t, "Expected: "+row.name, all(match.Expected(row.o, row.r)), row.e)
	}
}

func TestLargeResultsOfRaces(t *testing.T) {
	// The square of 300 nines has 600 digits, that of the next number 601.
	fits, large := odds("1/"+nines(300), "1/"+nines(300)), odds("1/"+digits(301, 0), "1/"+digits(301, 0))
	square := "1/" + nines(299) + "8" + api.Rat(strings.Repeat("0", 299)) + "1"
	want(t, "a chance of 600 digits", all(match.Chance(fits, race(2, 1, "winner"))), all(square, api.OK))
	wantError(t, "a chance of 601 digits", all(match.Chance(large, race(2, 1, "winner"))), api.ErrLarge)
	wantError(t, "scores of 601 digits", all(match.Scores(large, race(1, 2, "alternate"))), api.ErrLarge)
	wantError(t, "scores of which the last one is large", all(match.Scores(odds("1/"+digits(301, 0), "1"), race(2, 2, "winner"))), api.ErrLarge)
	want(t, "a chance without them", all(match.Chance(odds("1/2", "1/"+digits(600, 0)), race(1, 1, "winner"))), all(api.Rat("1/2"), api.OK))
	// The expected number is 2 less a part in so many.
	want(t, "an expected number of 600 digits", all(match.Expected(odds("1/"+digits(600, 0), "0"), race(1, 2, "loser"))), all("1"+api.Rat(strings.Repeat("9", 599))+"/"+digits(600, 0), api.OK))
	wantError(t, "an expected number of 601 digits", all(match.Expected(odds("1/"+nines(600), "0"), race(1, 2, "loser"))), api.ErrLarge)
}

func TestLongOdds(t *testing.T) {
	// Numbers of tens of thousands of digits on the way; the results are as short as the odds, or shorter.
	small := "1/" + digits(600, 7)
	first := func(order string) match.Race { return race(32, 1, order) }
	second := func(order string) match.Race {
		return match.Race{Need: [2]int{32, 1}, Order: order, Breaker: 1}
	}
	rest := digits(600, 6) + "/" + digits(600, 7)
	want(t, "one chance", all(match.Chance(odds("1", small), second("winner"))), all(small, api.OK))
	want(t, "the scores", all(match.Scores(odds("1", small), second("winner"))), all([]match.Score{{Frames: [2]int{32, 0}, Chance: small}, {Frames: [2]int{0, 1}, Chance: rest}}, api.OK))
	want(t, "no chance", all(match.Chance(odds("0", small), first("winner"))), all(api.Rat("0"), api.OK))
	want(t, "a certain race", all(match.Chance(odds("1", small), race(32, 32, "alternate"))), all(api.Rat("1"), api.OK))
	want(t, "its frames", all(match.Expected(odds("1", small), race(32, 32, "winner"))), all(api.Rat("32"), api.OK))
	want(t, "its result", all(match.Scores(odds("1", small), race(32, 32, "winner"))), all(scores("32 0 1"), api.OK))
	for _, o := range []match.Odds{odds(small, small), odds(rest, small), odds(small, "1"), odds(digits(600, 0)+"/"+nines(600), digits(599, 0)+"/"+digits(600, 1))} {
		for _, order := range orders() {
			what := fmt.Sprintf(" with %.20v, %s", o, order)
			wantError(t, "Chance"+what, all(match.Chance(o, race(32, 32, order))), api.ErrLarge)
			wantError(t, "Scores"+what, all(match.Scores(o, race(32, 32, order))), api.ErrLarge)
			wantError(t, "Expected"+what, all(match.Expected(o, race(32, 32, order))), api.ErrLarge)
		}
	}
}

func TestOddsWithAFactorInCommon(t *testing.T) {
	// Long numbers are looked at modulo powers of this prime, but not if the odds have it as a factor.
	prime := new(big.Int).SetUint64(1<<64 - 59)
	r := match.Race{Need: [2]int{32, 1}, Order: "winner", Breaker: 1}
	for _, factor := range []int64{1, 3 << 20, 1 << 40} {
		bottom := new(big.Int).Exp(prime, big.NewInt(30), nil)
		small := api.Rat("1/" + bottom.Mul(bottom, big.NewInt(factor)).String())
		want(t, "Chance", all(match.Chance(odds("1", small), r)), all(small, api.OK))
		wantError(t, "Chance of the other one", all(match.Chance(odds(small, "1"), race(32, 32, "loser"))), api.ErrLarge)
	}
}
