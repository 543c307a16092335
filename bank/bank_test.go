package bank_test

import (
	"math"
	"math/big"
	"math/rand"
	"testing"

	"baulk/api"
	"baulk/bank"
	"baulk/table"
)

// Tests of P3.1 (paths).

func TestWords(t *testing.T) {
	for _, row := range []struct {
		word []int
		e    api.Errno
	}{
		{nil, api.OK}, {word(0), api.OK}, {word(3, 0, 3, 0, 3, 0), api.OK}, {word(0, 1, 2, 3, 2, 1), api.OK},
		{word(0, 1, 0, 1, 0, 1, 0), api.ErrMany}, {word(9, 9, 9, 9, 9, 9, 9), api.ErrMany}, {make([]int, 100000), api.ErrMany},
		{word(4), api.ErrUnknown}, {word(-1), api.ErrUnknown}, {word(0, math.MaxInt), api.ErrUnknown}, {word(0, math.MinInt), api.ErrUnknown},
		{word(0, 0), api.ErrTwice}, {word(0, 1, 2, 2), api.ErrTwice},
		// The first edge with an error counts, and of the same edge twice that it does not exist.
		{word(1, 1, 4), api.ErrTwice}, {word(4, 1, 1), api.ErrUnknown}, {word(4, 4), api.ErrUnknown},
	} {
		wantError(t, "CheckWord", all(bank.CheckWord(example(), row.word)), row.e)
		_, e := bank.Image(example(), at("1", "1"), row.word)
		wantError(t, "Image", all(e), row.e)
		_, _, e = bank.Why(example(), at("1", "1"), at("5", "1"), row.word)
		wantError(t, "Why", all(e), row.e)
		if row.e != api.OK {
			wantError(t, "Path", all(bank.Path(example(), at("1", "1"), at("5", "1"), row.word)), row.e)
			wantError(t, "Length", all(bank.Length(example(), at("1", "1"), at("5", "1"), row.word)), row.e)
			wantError(t, "CheckReason", all(bank.CheckReason(example(), at("1", "1"), at("5", "1"), bank.Reason{Word: row.word, Why: "x"})), row.e)
		}
	}
	wantError(t, "CheckWord of 12 edges", all(bank.CheckWord(twelve(), word(11, 0))), api.OK)
	wantError(t, "CheckWord of 12 edges", all(bank.CheckWord(twelve(), word(11, 12))), api.ErrUnknown)
	for e, broken := range brokenTables() {
		wantError(t, "CheckWord on a broken table", all(bank.CheckWord(broken, word(9, 9, 9, 9, 9, 9, 9))), e)
	}
}

func TestImages(t *testing.T) {
	slanted := polygon(0, 0, 2, 1, 0, 3)
	for _, row := range []struct {
		on   table.Table
		p    api.Place
		word []int
		at   api.Place
	}{
		{example(), at("5", "1"), word(2), at("5", "7")}, {example(), at("5", "1"), word(1, 2), at("11", "7")}, {example(), at("7", "3"), word(2, 1), at("9", "5")},
		{example(), at("1/3", "1/7"), nil, at("1/3", "1/7")}, {example(), at("5", "1"), word(0, 2), at("5", "-7")}, {example(), at("5", "1"), word(2, 0), at("5", "9")},
		// The place may be anywhere, also outside, at a corner or in a pocket.
		{example(), at("-100", "1"), word(3), at("100", "1")}, {example(), at("0", "0"), word(1), at("16", "0")}, {pocketed(), at("3", "0"), word(2), at("3", "8")},
		// The first edge leads along 2, 1: its image of 0, 5 is 4, -3.
		{slanted, at("0", "5"), word(0), at("4", "-3")}, {slanted, at("2", "1"), word(0), at("2", "1")}, {slanted, at("1", "0"), word(0), at("3/5", "4/5")},
		{slanted, at("1", "0"), word(0, 1), at("17/5", "6/5")}, {slanted, at("1", "0"), word(1, 0), at("11/5", "12/5")},
		{example(), at("-"+nines(600), "0"), word(0), at("-"+nines(600), "0")},
	} {
		want(t, "Image", all(bank.Image(row.on, row.p, row.word)), all(row.at, api.OK))
	}
	for _, row := range []struct {
		on   table.Table
		p    api.Place
		word []int
		e    api.Errno
	}{
		{example(), at("x", large()), word(9), api.ErrForm}, {example(), at(large(), "x"), word(9), api.ErrLarge}, {example(), at("1", ""), word(9), api.ErrForm},
		{polygon(0, 0), at("x", ""), word(9), api.ErrShape},
		{example(), at("-"+nines(600), "0"), word(1), api.ErrLarge}, {example(), at("0", "-"+nines(600)), word(2), api.ErrLarge}, {slanted, at("1/"+nines(600), "0"), word(0), api.ErrLarge},
	} {
		wantError(t, "Image", all(bank.Image(row.on, row.p, row.word)), row.e)
	}
}

// way is a question for a path, and its answer: no reason, or one with a number.
type way struct {
	on       table.Table
	from, to api.Place
	word     []int
	at       int
	why      string
}

// ways returns ways with each of the reasons.
func ways() []way {
	right := example(pocket(1, "15/16", "1"))
	point := example(pocket(0, "1/4", "1/4"))
	obtuse := polygon(2, 0, 6, 0, 8, 3, 6, 6, 2, 6, 0, 3)
	return []way{
		{example(), at("1", "1"), at("5", "1"), word(2), 0, ""}, {example(), at("1", "1"), at("5", "1"), word(0), 0, ""},
		{example(), at("2", "2"), at("7", "3"), word(2, 1), 0, ""}, {example(), at("4", "2"), at("4", "2"), word(0, 2), 0, ""},
		// A place on an edge, or an image that is not beyond the edge.
		{example(), at("1", "0"), at("5", "1"), word(0), 1, "side"}, {example(), at("5", "1"), at("1", "0"), word(0), 1, "side"}, {example(), at("1", "0"), at("5", "0"), word(0), 1, "side"},
		{example(), at("1", "1"), at("5", "1"), word(0, 1, 0), 1, "side"}, {example(), at("8", "1"), at("5", "1"), word(1, 0), 1, "side"}, {example(), at("1", "1"), at("8", "1"), word(0, 1), 2, "side"},
		// Before the beginning, and behind the end of an edge.
		{example(), at("1", "1"), at("5", "1"), word(1, 2), 1, "beside"}, {example(), at("1", "3"), at("5", "3"), word(1, 0), 1, "beside"}, {example(), at("7", "1"), at("5", "3"), word(2, 1), 1, "beside"},
		{example(), at("1", "1"), at("2", "1"), word(0, 2, 1), 2, "beside"}, {example(), at("1", "1"), at("4", "3"), word(0, 1, 2, 3), 3, "beside"},
		// A corner, by both of its edges, at the first rebound and at the second one; it may be in a pocket.
		{example(), at("7", "3"), at("7", "3"), word(2, 1), 1, "corner"}, {example(), at("7", "3"), at("7", "3"), word(1, 2), 1, "corner"},
		{right, at("7", "3"), at("7", "3"), word(2, 1), 1, "pocket"}, {right, at("7", "3"), at("7", "3"), word(1, 2), 1, "pocket"},
		{example(pocket(2, "0", "0")), at("7", "3"), at("7", "3"), word(1, 2), 1, "pocket"}, {example(pocket(2, "0", "0")), at("7", "3"), at("7", "3"), word(2, 1), 1, "pocket"},
		{example(pocket(3, "1", "1")), at("1", "1"), at("1", "1"), word(0, 3), 1, "pocket"}, {example(pocket(0, "0", "0")), at("1", "1"), at("1", "1"), word(3, 0), 1, "pocket"},
		{example(pocket(2, "1", "1"), pocket(3, "0", "0")), at("7", "3"), at("7", "3"), word(2, 1), 1, "corner"},
		{example(), at("1", "1"), at("5", "3"), word(1, 2, 3), 2, "corner"}, {example(), at("1", "1"), at("3", "3"), word(0, 1, 2, 3), 3, "corner"}, {example(pocket(3, "0", "1/9")), at("1", "1"), at("5", "3"), word(1, 2, 3), 2, "pocket"},
		{obtuse, at("4", "3"), at("4", "9/2"), word(0), 0, ""}, {obtuse, at("3", "3"), at("1", "3"), word(0), 1, "corner"}, {obtuse, at("5", "3"), at("7", "3"), word(0), 1, "corner"},
		// A pocket from 2 to 4, by both ends, within, and just beside it; one of a single place.
		{pocketed(), at("1", "1"), at("3", "1"), word(0), 1, "pocket"}, {pocketed(), at("3", "1"), at("5", "1"), word(0), 1, "pocket"}, {pocketed(), at("3", "1"), at("3", "1"), word(0), 1, "pocket"},
		{pocketed(), at("1", "1"), at("3", "99/100"), word(0), 1, "pocket"}, {pocketed(), at("1", "99/100"), at("3", "1"), word(0), 0, ""}, {pocketed(), at("3", "99/100"), at("5", "1"), word(0), 1, "pocket"},
		{pocketed(), at("3", "1"), at("5", "99/100"), word(0), 0, ""}, {point, at("1", "1"), at("3", "1"), word(0), 1, "pocket"}, {point, at("1", "1"), at("3", "1001/1000"), word(0), 0, ""},
		{example(pocket(0, "0", "1")), at("1", "1"), at("5", "1"), word(0), 1, "pocket"}, {example(pocket(0, "0", "1")), at("1", "1"), at("5", "1"), word(2), 0, ""},
		{pocketed(), at("5", "1"), at("1", "3"), word(2, 0), 2, "pocket"}, {pocketed(), at("5", "1"), at("1", "3"), word(0, 2), 0, ""},
		// Beside counts before a pocket that reaches the corner.
		{example(pocket(1, "0", "1")), at("1", "1"), at("5", "1"), word(1, 2), 1, "beside"}, {example(pocket(1, "0", "1")), at("1", "3"), at("5", "3"), word(1, 0), 1, "beside"},
		// Without rebounds: only a pocket between two places of one edge is in the way.
		{pocketed(), at("1", "0"), at("5", "0"), nil, 0, "pocket"}, {pocketed(), at("5", "0"), at("1", "0"), nil, 0, "pocket"}, {point, at("1", "0"), at("3", "0"), nil, 0, "pocket"},
		{pocketed(), at("5", "0"), at("7", "0"), nil, 0, ""}, {pocketed(), at("1/2", "0"), at("3/2", "0"), nil, 0, ""}, {pocketed(), at("1", "0"), at("1", "0"), nil, 0, ""},
		{pocketed(), at("1", "0"), at("0", "1"), nil, 0, ""}, {pocketed(), at("1", "0"), at("5", "1"), nil, 0, ""}, {pocketed(), at("5", "1"), at("1", "0"), nil, 0, ""},
		{pocketed(), at("1", "4"), at("5", "4"), nil, 0, ""}, {pocketed(), at("1", "1"), at("5", "1"), nil, 0, ""}, {pocketed(), at("1", "4"), at("8", "1"), nil, 0, ""},
		{example(pocket(2, "1/4", "1/2")), at("1", "0"), at("5", "0"), nil, 0, ""}, {example(pocket(2, "1/4", "1/2")), at("1", "4"), at("7", "4"), nil, 0, "pocket"},
		{example(pocket(0, "0", "1/16"), pocket(0, "15/16", "1")), at("1", "0"), at("7", "0"), nil, 0, ""},
	}
}

func TestReasonsOfWays(t *testing.T) {
	for _, w := range ways() {
		want(t, "Why", all(bank.Why(w.on, w.from, w.to, w.word)), all(w.at, w.why, api.OK))
		_, _, places := literal(t, w.on, w.from, w.to, w.word)
		length := ""
		if w.why == "" {
			length = squareOf(t, places)
		}
		e := map[bool]api.Errno{true: api.OK, false: api.ErrInfeasible}[w.why == ""]
		want(t, "Path", all(bank.Path(w.on, w.from, w.to, w.word)), all(places, e))
		want(t, "Length", all(bank.Length(w.on, w.from, w.to, w.word)), all(length, e))
	}
}

func TestPaths(t *testing.T) {
	for _, row := range []struct {
		from, to api.Place
		word     []int
		path     []api.Place
		length   api.Rat
	}{
		{at("1", "1"), at("5", "1"), word(2), path("1", "1", "3", "4", "5", "1"), "52"}, {at("1", "1"), at("5", "1"), word(0), path("1", "1", "3", "0", "5", "1"), "20"},
		{at("4", "2"), at("4", "2"), word(0, 2), path("4", "2", "4", "0", "4", "4", "4", "2"), "64"},
		{at("2", "2"), at("7", "3"), word(2, 1), path("2", "2", "20/3", "4", "8", "24/7", "7", "3"), "58"},
		{at("1", "1"), at("5", "1"), nil, path("1", "1", "5", "1"), "16"}, {at("1", "1"), at("1", "1"), nil, path("1", "1", "1", "1"), "0"},
		{at("1", "0"), at("5", "4"), nil, path("1", "0", "5", "4"), "32"}, {at("1/3", "0"), at("1/2", "0"), nil, path("1/3", "0", "1/2", "0"), "1/36"},
	} {
		want(t, "Path", all(bank.Path(example(), row.from, row.to, row.word)), all(row.path, api.OK))
		want(t, "Length", all(bank.Length(example(), row.from, row.to, row.word)), all(row.length, api.OK))
	}
}

func TestLargePaths(t *testing.T) {
	// Both lengths along Y are 7 together, so the place at the top has 7 in its denominator, and the length has not.
	low, high := at("1", "1/"+nines(600)), at("5", nines(599)+"8/"+nines(600))
	wantError(t, "Path with 601 digits", all(bank.Path(example(), low, high, word(2))), api.ErrLarge)
	want(t, "Length of it", all(bank.Length(example(), low, high, word(2))), all("65", api.OK))
	want(t, "Why of it", all(bank.Why(example(), low, high, word(2))), all(0, "", api.OK))
	want(t, "Path without rebounds", all(bank.Path(example(), low, high, nil)), all([]api.Place{low, high}, api.OK))
	wantError(t, "Length of 1200 digits", all(bank.Length(example(), low, high, nil)), api.ErrLarge)
	want(t, "Length of 600 digits", all(bank.Length(example(), at("1", "0"), at("1", "1/"+nines(300)), nil)), all("1/"+square300(), api.OK))
	wantError(t, "Length of 601 digits", all(bank.Length(example(), at("1", "0"), at("1", "1/1"+nines(300)), nil)), api.ErrLarge)
	wantError(t, "Path that there is not", all(bank.Path(example(), low, high, word(2, 1, 2, 1))), api.ErrInfeasible)
	wantError(t, "Length of a path that there is not", all(bank.Length(example(), low, high, word(2, 1, 2, 1))), api.ErrInfeasible)
}

// square300 returns the square of the greatest number with 300 digits.
func square300() string {
	n, _ := new(big.Int).SetString(string(nines(300)), 10)
	return n.Mul(n, n).String()
}

func TestErrorsOfPaths(t *testing.T) {
	many := word(0, 1, 0, 1, 0, 1, 0)
	good := at("5", "1")
	for what, f := range map[string]func(on table.Table, from, to api.Place, w []int) []any{
		"Why":    func(on table.Table, from, to api.Place, w []int) []any { return all(bank.Why(on, from, to, w)) },
		"Path":   func(on table.Table, from, to api.Place, w []int) []any { return all(bank.Path(on, from, to, w)) },
		"Length": func(on table.Table, from, to api.Place, w []int) []any { return all(bank.Length(on, from, to, w)) },
	} {
		errorsOfPlaces(t, what+" from", good, func(on table.Table, p api.Place) []any { return f(on, p, good, nil) })
		errorsOfPlaces(t, what+" to", good, func(on table.Table, p api.Place) []any { return f(on, good, p, nil) })
		wantError(t, what, f(pocketed(), at("3", "0"), at("x", ""), many), api.ErrPocket)
		wantError(t, what, f(pocketed(), good, at("9", "9"), many), api.ErrOutside)
		wantError(t, what, f(pocketed(), good, good, many), api.ErrMany)
	}
}

// literal returns the reason why a word has no path, or the places of the path, as the chapter defines them.
func literal(t *testing.T, on table.Table, from, to api.Place, word []int) (int, string, []api.Place) {
	t.Helper()
	places := []api.Place{from}
	if len(word) == 0 {
		if pocketBetween(t, on, value(t, from), value(t, to)) {
			return 0, "pocket", nil
		}
		return 0, "", append(places, to)
	}
	x := value(t, from)
	for i, edge := range word {
		j := value(t, to)
		for k := len(word) - 1; k >= i; k-- {
			j = mirrored(on, word[k], j)
		}
		before, behind := leftOf(on, edge, x), leftOf(on, edge, j)
		if before.Sign() <= 0 || behind.Sign() >= 0 {
			return i + 1, "side", nil
		}
		x = plus(x, new(big.Rat).Quo(before, new(big.Rat).Sub(before, behind)), minus(j, x))
		if why := obstacleAt(on, edge, shareOf(on, edge, x)); why != "" {
			return i + 1, why, nil
		}
		places = append(places, text(x))
	}
	return 0, "", append(places, to)
}

// mirrored returns a place mirrored at an edge: it goes twice as far as the line is.
func mirrored(on table.Table, edge int, p vector) vector {
	_, along := edgeOf(on, edge)
	across := vector{new(big.Rat).Neg(along[1]), along[0]}
	return plus(p, new(big.Rat).Quo(new(big.Rat).Mul(big.NewRat(-2, 1), leftOf(on, edge, p)), dot(across, across)), across)
}

// pocketBetween reports whether two places are on one edge, with a pocket between them.
func pocketBetween(t *testing.T, on table.Table, p, q vector) bool {
	for _, g := range on.Pockets {
		if leftOf(on, g.Edge, p).Sign() != 0 || leftOf(on, g.Edge, q).Sign() != 0 {
			continue
		}
		middle := value(t, at(g.From, g.To))[0]
		first, second := shareOf(on, g.Edge, p), shareOf(on, g.Edge, q)
		if new(big.Rat).Mul(new(big.Rat).Sub(middle, first), new(big.Rat).Sub(middle, second)).Sign() < 0 {
			return true
		}
	}
	return false
}

// squareOf returns the square of the length of a path, whose legs are parallel when they are unfolded: the roots of
// their squares are as the shares of one of them.
func squareOf(t *testing.T, places []api.Place) string {
	t.Helper()
	sum, longest := new(big.Rat), new(big.Rat)
	for i := range len(places) - 1 {
		leg := minus(value(t, places[i+1]), value(t, places[i]))
		if square := dot(leg, leg); square.Cmp(longest) > 0 {
			longest = square
		}
	}
	if longest.Sign() == 0 {
		return "0"
	}
	for i := range len(places) - 1 {
		leg := minus(value(t, places[i+1]), value(t, places[i]))
		sum.Add(sum, rootOf(t, new(big.Rat).Quo(dot(leg, leg), longest)))
	}
	return new(big.Rat).Mul(new(big.Rat).Mul(sum, sum), longest).RatString()
}

// rootOf returns the root of a number that has one.
func rootOf(t *testing.T, square *big.Rat) *big.Rat {
	t.Helper()
	root := new(big.Rat).SetFrac(new(big.Int).Sqrt(square.Num()), new(big.Int).Sqrt(square.Denom()))
	if new(big.Rat).Mul(root, root).Cmp(square) != 0 {
		t.Fatalf("%v has no root", square)
	}
	return root
}

func TestWaysAgainstLibrary(t *testing.T) {
	r := rand.New(rand.NewSource(1))
	counts := map[string]int{}
	for range 3000 {
		on := someTable(t, r)
		from, to := somePlace(t, r, on), somePlace(t, r, on)
		if r.Intn(4) == 0 {
			to = from
		}
		w := someWord(r, len(on.Corners), r.Intn(5))
		number, why, places := literal(t, on, from, to, w)
		counts[why]++
		if number > 1 {
			counts[why+" later"]++
		}
		if len(w) > 1 && why == "" {
			counts["banks"]++
		}
		want(t, "Why", all(bank.Why(on, from, to, w)), all(number, why, api.OK))
		e := map[bool]api.Errno{true: api.OK, false: api.ErrInfeasible}[why == ""]
		want(t, "Path", all(bank.Path(on, from, to, w)), all(places, e))
	}
	for _, why := range []string{"", "banks", "side", "beside", "pocket", "corner", "side later", "beside later", "pocket later"} {
		if counts[why] < 10 {
			t.Errorf("only few ways of one kind: %v", counts)
			break
		}
	}
}

// someWord returns a word of some length.
func someWord(r *rand.Rand, edges, length int) []int {
	var w []int
	for len(w) < length {
		if edge := r.Intn(edges); len(w) == 0 || w[len(w)-1] != edge {
			w = append(w, edge)
		}
	}
	return w
}
