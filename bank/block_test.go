package bank_test

import (
	"fmt"
	"math/big"
	"math/rand"
	"slices"
	"testing"

	"baulk/api"
	"baulk/bank"
	"baulk/table"
)

// Tests of P3.3 (blocks).

func TestGaps(t *testing.T) {
	for _, row := range []struct {
		a, b, p api.Place
		gap     api.Rat
	}{
		{at("1", "1"), at("5", "1"), at("3", "2"), "1"}, {at("1", "1"), at("5", "1"), at("3", "3"), "4"}, {at("1", "1"), at("5", "1"), at("3", "1"), "0"}, {at("5", "1"), at("1", "1"), at("3", "-2"), "9"},
		// Beside the ends the nearest point is an end.
		{at("1", "1"), at("5", "1"), at("0", "2"), "2"}, {at("1", "1"), at("5", "1"), at("6", "3"), "5"}, {at("1", "1"), at("5", "1"), at("1", "3"), "4"}, {at("1", "1"), at("5", "1"), at("5", "2"), "1"},
		{at("1", "1"), at("5", "1"), at("-2", "1"), "9"}, {at("1", "1"), at("5", "1"), at("7", "1"), "4"}, {at("1", "1"), at("5", "1"), at("1", "1"), "0"}, {at("1", "1"), at("5", "1"), at("5", "1"), "0"},
		// A single point.
		{at("1", "1"), at("1", "1"), at("4", "5"), "25"}, {at("1", "1"), at("1", "1"), at("1", "1"), "0"},
		{at("0", "0"), at("2", "1"), at("0", "1"), "4/5"}, {at("2", "1"), at("0", "0"), at("0", "1"), "4/5"}, {at("0", "0"), at("2", "1"), at("-1/2", "1"), "5/4"}, {at("0", "0"), at("2", "1"), at("-1/3", "1"), "49/45"},
		{at("1/2", "1/3"), at("3/4", "1/5"), at("1/7", "2"), "5125/1764"}, {at("-"+nines(600), "1"), at(nines(600), "1"), at("1/2", "1/2"), "1/4"},
		{at("1", "0"), at("1", "1/"+nines(599)), at("0", "1/"+nines(600)), "1"},
	} {
		want(t, "Gap", all(bank.Gap(row.a, row.b, row.p)), all(row.gap, api.OK))
	}
	for _, row := range []struct {
		a, b, p api.Place
		e       api.Errno
	}{
		{at("x", large()), at(large(), ""), at("", ""), api.ErrForm}, {at(large(), "x"), at("x", ""), at("", ""), api.ErrLarge}, {at("1", large()), at("x", ""), at("", ""), api.ErrLarge},
		{at("1", "1"), at("1", "2/4"), at(large(), ""), api.ErrForm}, {at("1", "1"), at(large(), "1"), at("", ""), api.ErrLarge}, {at("1", "1"), at("2", "1"), at("2", "-0"), api.ErrForm},
		{at("1", "1"), at("2", "1"), at("2", large()), api.ErrLarge}, {at("1", "1"), at("2", "1"), at("1", "1"+nines(300)), api.ErrLarge}, {at("0", "0"), at("2", "0"), at("1", "1/1"+nines(300)), api.ErrLarge},
	} {
		wantError(t, "Gap", all(bank.Gap(row.a, row.b, row.p)), row.e)
	}
}

// gapOf returns the square of the distance of a place from the point of a segment at the share that is nearest to it.
func gapOf(a, b, p vector) *big.Rat {
	along, share := minus(b, a), new(big.Rat)
	if length := dot(along, along); length.Sign() != 0 {
		share.Quo(dot(along, minus(p, a)), length)
	}
	if share.Sign() < 0 {
		share.SetInt64(0)
	}
	if share.Cmp(big.NewRat(1, 1)) > 0 {
		share.SetInt64(1)
	}
	way := minus(p, plus(a, share, along))
	return dot(way, way)
}

// someVector returns a vector of small numbers.
func someVector(r *rand.Rand) vector {
	return vector{big.NewRat(int64(r.Intn(21)-10), int64(1+r.Intn(3))), big.NewRat(int64(r.Intn(21)-10), int64(1+r.Intn(3)))}
}

func TestGapsAgainstLibrary(t *testing.T) {
	r := rand.New(rand.NewSource(3))
	for range 2000 {
		a, b, p := someVector(r), someVector(r), someVector(r)
		wanted := all(gapOf(a, b, p).RatString(), api.OK)
		want(t, "Gap", all(bank.Gap(text(a), text(b), text(p))), wanted)
		want(t, "Gap the other way round", all(bank.Gap(text(b), text(a), text(p))), wanted)
	}
}

func TestBlocked(t *testing.T) {
	straight := path("1", "1", "5", "1")
	bent := path("1", "1", "3", "4", "5", "1")
	for _, row := range []struct {
		balls  []table.Ball
		path   []api.Place
		except []string
		name   string
		leg    int
	}{
		{balls("3", "2"), straight, nil, "a", 0}, {balls("3", "299/100"), straight, nil, "a", 0}, {balls("3", "1"), straight, nil, "a", 0},
		// Behind the end of a leg, and at it.
		{balls("6", "1"), straight, nil, "a", 0}, {balls("69/10", "1"), straight, nil, "a", 0}, {balls("5", "1"), straight, nil, "a", 0}, {balls("1", "1"), straight, nil, "a", 0}, {balls("0", "0"), straight, nil, "a", 0},
		// The first leg counts before the first ball, of one leg the first ball in the list.
		{balls("5", "2", "1", "2"), bent, nil, "b", 0}, {balls("5", "2", "2", "0"), bent, nil, "b", 0}, {balls("1", "2", "3", "2"), bent, nil, "a", 0}, {balls("3", "2", "1", "2"), bent, nil, "a", 0},
		{balls("7", "3", "6", "1"), bent, nil, "b", 1}, {balls("6", "3", "6", "1"), bent, nil, "a", 1}, {balls("6", "1", "6", "3"), bent, nil, "a", 1},
		// Balls that do not matter.
		{balls("5", "2", "1", "2"), bent, []string{"b"}, "a", 1}, {balls("5", "2", "1", "2"), bent, []string{"a"}, "b", 0}, {balls("1", "2", "5", "2", "3", "2"), bent, []string{"a"}, "c", 0},
		{balls("1", "2", "5", "2", "3", "2"), bent, []string{"c", "a"}, "b", 1},
		// Legs without length, corners, pockets, and a path of eight places.
		{balls("3", "2"), path("3", "3", "3", "3"), nil, "a", 0}, {balls("8", "3"), path("0", "0", "4", "0", "4", "0", "8", "4"), nil, "a", 2},
		{balls("4", "2"), path("8", "0", "8", "4", "8", "0", "8", "4", "8", "0", "8", "4", "8", "0", "0", "4"), nil, "a", 6},
	} {
		want(t, "Blocked", all(bank.Blocked(pocketed(), row.balls, row.path, row.except)), all(row.name, row.leg, api.OK))
	}
	for _, row := range []struct {
		balls  []table.Ball
		path   []api.Place
		except []string
	}{
		{nil, straight, nil}, {balls("3", "3"), straight, nil}, {balls("7", "1"), straight, nil}, {balls("1", "3"), straight, nil}, {balls("3", "2"), path("3", "4", "3", "4"), nil},
		{balls("3", "1"), straight, []string{"a"}}, {balls("1", "2", "5", "2", "3", "2"), bent, []string{"b", "c", "a"}}, {balls("8", "4", "3", "2"), bent, []string{"b"}},
	} {
		wantError(t, "Blocked", all(bank.Blocked(example(), row.balls, row.path, row.except)), api.ErrNone)
	}
	wide := example()
	wide.Radius = 2
	want(t, "Blocked by a ball of the radius 2", all(bank.Blocked(wide, balls("1", "4"), straight, nil)), all("a", 0, api.OK))
	wantError(t, "Blocked by a ball that touches", all(bank.Blocked(wide, balls("1", "4"), path("1", "0", "5", "0"), nil)), api.ErrNone)
}

func TestErrorsOfBlocked(t *testing.T) {
	straight := path("1", "1", "5", "1")
	outside := path("1", "1", "5", "-1")
	twice := []string{"a", "a"}
	for _, row := range []struct {
		balls  []table.Ball
		path   []api.Place
		except []string
		e      api.Errno
	}{
		{[]table.Ball{ball("1", "9", "9")}, nil, twice, api.ErrName}, {balls("9", "9"), nil, twice, api.ErrOutside}, {balls("1", "1", "1", "2"), nil, twice, api.ErrOverlap}, {make([]table.Ball, 25), nil, twice, api.ErrMany},
		{nil, nil, twice, api.ErrShape}, {nil, outside[1:], twice, api.ErrShape}, {nil, slices.Repeat(outside[1:], 9), twice, api.ErrShape}, {nil, slices.Repeat(straight, 4), nil, api.ErrNone},
		{nil, outside, twice, api.ErrOutside}, {nil, path("9", "9", "", ""), twice, api.ErrOutside}, {nil, path("x", large(), "9", "9"), twice, api.ErrForm}, {nil, path("1", large(), "9", "9"), twice, api.ErrLarge},
		{nil, path("1", "1", "2/2", "9"), twice, api.ErrForm}, {nil, path("1", "1", "8", "4", "5", "4001/1000"), nil, api.ErrOutside}, {nil, path("-1/"+nines(600), "1", "8", "4"), nil, api.ErrOutside},
		{balls("1", "1"), straight, make([]string, 25), api.ErrMany}, {balls("1", "1"), straight, twice, api.ErrTwice}, {nil, straight, twice, api.ErrUnknown}, {balls("1", "1"), straight, []string{"a", "b", "a"}, api.ErrUnknown},
		{balls("1", "1", "3", "3"), straight, []string{"b", "a", "b", "c"}, api.ErrTwice}, {balls("1", "1"), straight, []string{""}, api.ErrUnknown}, {balls("1", "1"), straight, []string{"A"}, api.ErrUnknown},
		{balls("1", "1"), straight, []string{"c", "c"}, api.ErrUnknown},
	} {
		wantError(t, "Blocked", all(bank.Blocked(example(), row.balls, row.path, row.except)), row.e)
	}
	for e, broken := range brokenTables() {
		wantError(t, "Blocked on a broken table", all(bank.Blocked(broken, make([]table.Ball, 25), nil, twice)), e)
	}
	// As many names as there may be balls.
	on := polygon(0, 0, 1000, 0, 1000, 1000)
	var l []table.Ball
	var names []string
	for i := range api.MaxBalls {
		name := fmt.Sprintf("b%d", i)
		l = append(l, table.Ball{Name: name, At: text(vector{big.NewRat(int64(500+3*i), 1), big.NewRat(1, 1)})})
		names = append(names, name)
	}
	wantError(t, "Blocked without 24 balls", all(bank.Blocked(on, l, path("500", "1", "900", "1"), names)), api.ErrNone)
	want(t, "Blocked without 23 balls", all(bank.Blocked(on, l, path("500", "1", "900", "1"), names[:23])), all("b23", 0, api.OK))
	wantError(t, "Blocked without 25 balls", all(bank.Blocked(on, l, path("500", "1", "900", "1"), append(names, "x"))), api.ErrMany)
}

func TestClear(t *testing.T) {
	from, to := at("1", "1"), at("5", "1")
	for _, row := range []struct {
		balls  []table.Ball
		n      int
		except []string
		words  [][]int
	}{
		{nil, 1, nil, words("", "0", "1", "2", "3")}, {balls("3", "2"), 1, nil, nil}, {balls("3", "2"), 1, []string{"a"}, words("", "0", "1", "2", "3")},
		{balls("3", "3"), 1, nil, words("", "0", "1", "3")}, {balls("3", "4"), 1, nil, words("", "0", "1", "3")}, {balls("7", "1"), 1, nil, words("", "0", "2", "3")},
		{balls("3", "4", "8", "1"), 1, nil, words("", "0", "3")}, {balls("3", "4", "8", "1"), 1, []string{"b"}, words("", "0", "1", "3")}, {balls("3", "4", "8", "1"), 0, []string{"b", "a"}, words("")},
		{balls("1", "1"), 1, nil, nil}, {balls("1", "1"), 1, []string{"a"}, words("", "0", "1", "2", "3")},
	} {
		want(t, "Clear", all(bank.Clear(example(), row.balls, from, to, row.n, row.except)), all(row.words, api.OK))
	}
	// Nothing on the way is too large: neither the places of the rebounds, nor the gaps.
	low, high := at("1", "1/"+nines(600)), at("5", nines(599)+"8/"+nines(600))
	want(t, "Clear", all(bank.Clear(example(), balls("3", "4", "3", "0"), low, high, 1, []string{"b"})), all(words("", "0", "1", "3"), api.OK))
}

func TestErrorsOfClear(t *testing.T) {
	twice := []string{"a", "a"}
	good := at("5", "1")
	for _, row := range []struct {
		balls    []table.Ball
		from, to api.Place
		n        int
		except   []string
		e        api.Errno
	}{
		{make([]table.Ball, 25), at("", ""), good, -1, twice, api.ErrMany}, {balls("1", "1", "1", "2"), at("", ""), good, -1, twice, api.ErrOverlap}, {nil, at("", ""), at("9", "9"), -1, twice, api.ErrForm},
		{nil, good, at("9", "9"), -1, twice, api.ErrOutside}, {nil, good, at("0", "0"), -1, twice, api.ErrCorner}, {nil, good, good, -1, twice, api.ErrRange}, {nil, good, good, 7, twice, api.ErrRange},
		{nil, good, good, 6, make([]string, 25), api.ErrMany}, {nil, good, good, 6, twice, api.ErrUnknown}, {balls("1", "1"), good, good, 6, twice, api.ErrTwice},
	} {
		wantError(t, "Clear", all(bank.Clear(example(), row.balls, row.from, row.to, row.n, row.except)), row.e)
	}
	wantError(t, "Clear", all(bank.Clear(twelve(), nil, at("30", "1"), at("30", "1"), 4, twice)), api.ErrLimit)
	for e, broken := range brokenTables() {
		wantError(t, "Clear on a broken table", all(bank.Clear(broken, make([]table.Ball, 25), good, good, 1, nil)), e)
	}
}

// someBalls returns some balls of a table, on places of a path, that do not overlap.
func someBalls(t *testing.T, r *rand.Rand, on table.Table) []table.Ball {
	t.Helper()
	var list []table.Ball
	for i := range r.Intn(5) {
		l := append(slices.Clone(list), table.Ball{Name: string(rune('a' + i)), At: somePlace(t, r, on)})
		if table.CheckLayout(on, l) == api.OK {
			list = l
		}
	}
	return list
}

func TestClearAgainstLibrary(t *testing.T) {
	r := rand.New(rand.NewSource(4))
	counts := map[string]int{}
	for range 150 {
		on := someTable(t, r)
		from, to := somePlace(t, r, on), somePlace(t, r, on)
		l := someBalls(t, r, on)
		reach := big.NewRat(int64(4*on.Radius*on.Radius), 1)
		banks, e := bank.Banks(on, from, to, 2)
		wantError(t, "Banks", all(e), api.OK)
		var clear [][]int
		for _, w := range banks {
			_, _, places := literal(t, on, from, to, w)
			name, leg := "", 0
			for i := len(places) - 2; i >= 0; i-- {
				for _, b := range slices.Backward(l) {
					if gapOf(value(t, places[i]), value(t, places[i+1]), value(t, b.At)).Cmp(reach) < 0 {
						name, leg = b.Name, i
					}
				}
			}
			if name == "" {
				clear = append(clear, w)
				counts["clear"]++
				wantError(t, "Blocked", all(bank.Blocked(on, l, places, nil)), api.ErrNone)
				continue
			}
			counts[fmt.Sprint("blocked ", leg)]++
			want(t, "Blocked", all(bank.Blocked(on, l, places, nil)), all(name, leg, api.OK))
		}
		want(t, "Clear", all(bank.Clear(on, l, from, to, 2, nil)), all(clear, api.OK))
	}
	if min(counts["clear"], counts["blocked 0"], counts["blocked 1"]) < 20 {
		t.Errorf("only few paths of one kind: %v", counts)
	}
}
