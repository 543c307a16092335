package match_test

import (
	"fmt"
	"math"
	"testing"

	"baulk/api"
	"baulk/match"
)

// Tests of P7.2 (starts).

func TestGiven(t *testing.T) {
	for _, row := range []struct {
		frames, start int
		need          [2]int
	}{
		{1, 0, [2]int{1, 1}}, {2, 1, [2]int{2, 1}}, {2, -1, [2]int{1, 2}}, {2, 0, [2]int{2, 2}}, {32, 31, [2]int{32, 1}}, {32, -31, [2]int{1, 32}}, {7, 3, [2]int{7, 4}}, {7, -3, [2]int{4, 7}},
	} {
		for _, order := range orders() {
			for breaker := range 2 {
				r := match.Race{Need: row.need, Order: order, Breaker: breaker}
				want(t, fmt.Sprintf("Given %d, %d", row.frames, row.start), all(match.Given(row.frames, row.start, order, breaker)), all(r, api.OK))
				want(t, "CheckRace of a race that is given", all(match.CheckRace(r)), all(api.OK))
			}
		}
	}
	for _, row := range []struct {
		frames, start int
		order         string
		breaker       int
		e             api.Errno
	}{
		{0, 0, "", 2, api.ErrRange}, {33, 0, "", 0, api.ErrRange}, {-1, 0, "", 0, api.ErrRange}, {math.MinInt, 0, "winner", 0, api.ErrRange}, {math.MaxInt, 0, "winner", 0, api.ErrRange},
		{1, 1, "", 2, api.ErrRange}, {1, -1, "", 2, api.ErrRange}, {7, 7, "", 0, api.ErrRange}, {7, -7, "", 0, api.ErrRange}, {7, math.MinInt, "", 0, api.ErrRange}, {7, math.MaxInt, "", 0, api.ErrRange},
		{7, 6, "", 2, api.ErrKind}, {7, -6, "Loser", 2, api.ErrKind}, {7, 6, "loser", 2, api.ErrRange}, {7, -6, "winner", -1, api.ErrRange},
	} {
		wantError(t, fmt.Sprintf("Given %v", row), all(match.Given(row.frames, row.start, row.order, row.breaker)), row.e)
	}
}

func TestFairest(t *testing.T) {
	for _, row := range []struct {
		name    string
		o       match.Odds
		frames  int
		order   string
		breaker int
		start   int
	}{
		{"example 3", odds("2/3", "2/3"), 2, "alternate", 0, 1},
		{"the other way round", odds("1/3", "1/3"), 2, "alternate", 0, -1},
		{"equal players", odds("1/2", "1/2"), 9, "winner", 1, 0},
		{"one frame", odds("1", "1"), 1, "winner", 1, 0},
		{"always won", odds("1", "1"), 5, "winner", 1, 0},
		{"always lost", odds("0", "0"), 5, "loser", 0, 0},
		{"the breaks decide", odds("1", "0"), 3, "alternate", 0, 0},
		{"the last start", odds("1", "1/2"), 2, "winner", 1, 1},
		{"strong breaks", odds("3/4", "1/4"), 16, "winner", 0, 1},
		{"strong breaks, loser", odds("3/4", "1/4"), 16, "loser", 1, 0},
		{"a better player", odds("5/8", "1/2"), 32, "winner", 0, 8},
		{"a better player, loser", odds("5/8", "1/2"), 32, "loser", 1, 6},
		{"a far better player", odds("9/10", "9/10"), 32, "loser", 0, 28},
		{"a far worse player", odds("1/10", "1/10"), 32, "loser", 0, -28},
		// With both of the starts that are equally near the chances are on different sides of 1/2.
		{"0 and -1", odds("1/2", "1/3"), 2, "alternate", 1, 0},
		{"0 and 1", odds("1/2", "2/3"), 2, "winner", 1, 0},
		{"-1 and -2", odds("0", "1/2"), 3, "alternate", 1, -1},
		{"1 and 2", odds("1", "1/2"), 3, "alternate", 1, 1},
	} {
		want(t, "Fairest: "+row.name, all(match.Fairest(row.o, row.frames, row.order, row.breaker)), all(row.start, api.OK))
	}
}

func TestLeast(t *testing.T) {
	for _, row := range []struct {
		name    string
		o       match.Odds
		frames  int
		order   string
		breaker int
		chance  api.Rat
		start   int
		e       api.Errno
	}{
		{"example 3", odds("2/3", "2/3"), 2, "alternate", 0, "1/2", 1, api.OK},
		{"just the chance of a start", odds("2/3", "2/3"), 2, "alternate", 0, "7/27", 0, api.OK},
		{"a little more", odds("2/3", "2/3"), 2, "alternate", 0, "13/50", 1, api.OK},
		{"just the greatest chance", odds("2/3", "2/3"), 2, "alternate", 0, "5/9", 1, api.OK},
		{"too much", odds("2/3", "2/3"), 2, "alternate", 0, "139/250", 0, api.ErrInfeasible},
		{"certainty", odds("2/3", "2/3"), 2, "alternate", 0, "1", 0, api.ErrInfeasible},
		{"nothing", odds("2/3", "2/3"), 2, "alternate", 0, "0", -1, api.OK},
		{"one frame", odds("2/3", "1/3"), 1, "alternate", 1, "2/3", 0, api.OK},
		{"too much for one frame", odds("2/3", "1/3"), 1, "alternate", 0, "2/3", 0, api.ErrInfeasible},
		{"the least start", odds("1/2", "1/2"), 3, "alternate", 0, "1/8", -2, api.OK},
		{"the greatest start", odds("3/4", "1/2"), 3, "winner", 0, "1/2", 2, api.OK},
		{"another breaker, loser", odds("3/4", "1/2"), 3, "loser", 1, "1/2", 1, api.OK},
		{"another breaker", odds("3/4", "1/2"), 3, "alternate", 1, "1/3", 1, api.OK},
		{"always won", odds("1", "1"), 32, "winner", 0, "1/2", 0, api.ErrInfeasible},
		{"always lost", odds("0", "0"), 32, "winner", 0, "1", -31, api.OK},
		{"the breaks decide", odds("1", "0"), 3, "alternate", 0, "1", 1, api.OK},
		{"a small chance", odds("1/2", "1/2"), 2, "loser", 0, "1/" + nines(600), -1, api.OK},
	} {
		wantStart := all(row.start, row.e)
		want(t, "Least: "+row.name, all(match.Least(row.o, row.frames, row.order, row.breaker, row.chance)), wantStart)
	}
}

func TestErrorsOfStarts(t *testing.T) {
	half := odds("1/2", "1/2")
	for _, row := range []struct {
		name    string
		o       match.Odds
		frames  int
		order   string
		breaker int
		chance  api.Rat
		e       api.Errno
	}{
		{"no odds", odds("x", "1"), 0, "", 2, "", api.ErrForm},
		{"odds above 1", odds("1", "3/2"), 0, "", 2, "", api.ErrRange},
		{"large odds", odds("1", digits(601, 1)), 0, "", 2, "", api.ErrLarge},
		{"no frames", half, 0, "", 2, "", api.ErrRange},
		{"33 frames", half, 33, "", 2, "", api.ErrRange},
		{"the least number of frames", half, math.MinInt, "", 2, "", api.ErrRange},
		{"no order", half, 32, "", 2, "", api.ErrKind},
		{"no breaker", half, 32, "winner", 2, "", api.ErrRange},
		{"a breaker below 0", half, 1, "winner", -1, "", api.ErrRange},
		{"no chance", half, 1, "winner", 1, "", api.ErrForm},
		{"a chance that is not in lowest terms", half, 1, "winner", 1, "2/4", api.ErrForm},
		{"a large chance", half, 1, "winner", 1, "1/" + digits(601, 1), api.ErrLarge},
		{"a chance below 0", half, 1, "winner", 1, "-1/3", api.ErrRange},
		{"a chance above 1", half, 1, "winner", 1, "4/3", api.ErrRange},
	} {
		wantError(t, "Least: "+row.name, all(match.Least(row.o, row.frames, row.order, row.breaker, row.chance)), row.e)
		if row.breaker < 0 || row.breaker > 1 {
			wantError(t, "Fairest: "+row.name, all(match.Fairest(row.o, row.frames, row.order, row.breaker)), row.e)
		}
	}
}

func TestStartsOfLongOdds(t *testing.T) {
	// Chances are compared that have tens of thousands of digits: those of both sides of 1/2 differ in the last ones.
	above, below := digits(600, 1)+"/2"+digits(600, 0)[1:], nines(599)+"/2"+digits(600, 0)[1:]
	for _, order := range orders() {
		want(t, "Fairest, "+order, all(match.Fairest(odds(above, below), 16, order, 0)), all(0, api.OK))
		want(t, "Least above 1/2, "+order, all(match.Least(odds(above, above), 16, order, 0, "1/2")), all(1, api.OK))
		want(t, "Least below 1/2, "+order, all(match.Least(odds(below, below), 16, order, 0, "1/2")), all(0, api.OK))
		want(t, "Least just above 1/2, "+order, all(match.Least(odds(below, below), 16, order, 0, digits(600, 1)+"/2"+digits(600, 0)[1:])), all(0, api.OK))
	}
}
