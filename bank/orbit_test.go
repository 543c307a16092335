package bank_test

import (
	"fmt"
	"math/rand"
	"slices"
	"testing"

	"baulk/api"
	"baulk/bank"
	"baulk/table"
)

// Tests of P3.5 (orbits).

// turnedExample returns the table of the examples, with its corners from another one on.
func turnedExample(k int) table.Table {
	on := example()
	on.Corners = slices.Concat(on.Corners[k:], on.Corners[:k])
	return on
}

func TestPeriods(t *testing.T) {
	for _, row := range []struct {
		on     table.Table
		p, d   api.Place
		visits []int
	}{
		{example(), at("2", "1"), at("1", "1"), []int{2, 1, 2, 1}}, {example(), at("2", "1"), at("-1", "1"), []int{2, 1, 2, 1}}, {example(), at("2", "1"), at("1/3", "-1/3"), []int{2, 1, 2, 1}},
		{turnedExample(1), at("2", "1"), at("1", "1"), []int{1, 2, 1, 2}}, {turnedExample(2), at("2", "1"), at("1", "1"), []int{2, 1, 2, 1}}, {turnedExample(3), at("2", "1"), at("1", "1"), []int{1, 2, 1, 2}},
		// From an edge, where the last rebound is at the place itself.
		{example(), at("5", "4"), at("1", "-1"), []int{2, 1, 2, 1}}, {example(), at("8", "1"), at("-1", "-1"), []int{2, 1, 2, 1}}, {example(), at("0", "1"), at("1", "-1"), []int{2, 1, 2, 1}},
		// Along an axis the ball comes to two edges.
		{example(), at("1", "1"), at("1", "0"), []int{0, 1, 0, 1}}, {example(), at("1", "1"), at("-7", "0"), []int{0, 1, 0, 1}}, {example(), at("1", "1"), at("0", "1/2"), []int{1, 0, 1, 0}}, {example(), at("1", "1"), at("0", "-1"), []int{1, 0, 1, 0}},
		{example(), at("8", "1"), at("-1", "0"), []int{0, 1, 0, 1}}, {example(), at("1", "0"), at("0", "1"), []int{1, 0, 1, 0}},
		// Twice as long as high: 3 to 1 are 3 lengths in 2 heights.
		{example(), at("1", "1/2"), at("3", "1"), []int{2, 3, 2, 3}}, {example(), at("1", "1/3"), at("3", "2"), []int{4, 3, 4, 3}}, {example(), at("1", "1/3"), at("2", "1"), []int{1, 1, 1, 1}}, {example(), at("1", "1/3"), at("-4", "-6"), []int{3, 1, 3, 1}},
		// Pockets do not matter: not where the ball begins, and not on its way.
		{pocketed(), at("2", "1"), at("1", "1"), []int{2, 1, 2, 1}}, {pocketed(), at("3", "0"), at("1", "1"), []int{2, 1, 2, 1}}, {example(pocket(0, "0", "1"), pocket(1, "0", "1"), pocket(2, "0", "1"), pocket(3, "0", "1")), at("2", "1"), at("1", "1"), []int{2, 1, 2, 1}},
		{polygon(-7, -3, 1, -3, 1, 1, -7, 1), at("-5", "-2"), at("1", "1"), []int{2, 1, 2, 1}},
	} {
		sum := 0
		for _, n := range row.visits {
			sum += n
		}
		want(t, "Visits", all(bank.Visits(row.on, row.p, row.d)), all(row.visits, api.OK))
		want(t, "Period", all(bank.Period(row.on, row.p, row.d)), all(sum, api.OK))
		wantError(t, "Corner", all(bank.Corner(row.on, row.p, row.d)), api.ErrNone)
	}
}

func TestCorners(t *testing.T) {
	for _, row := range []struct {
		on       table.Table
		p, d     api.Place
		number   int
		rebounds int
	}{
		{example(), at("1", "1"), at("1", "1"), 1, 1}, {example(), at("1", "1"), at("-1", "-1"), 0, 0}, {example(), at("7", "3"), at("1/9", "1/9"), 2, 0}, {example(), at("7", "1"), at("1", "-1"), 1, 0}, {example(), at("1", "3"), at("-1", "1"), 3, 0},
		{turnedExample(1), at("1", "1"), at("1", "1"), 0, 1}, {turnedExample(2), at("1", "1"), at("1", "1"), 3, 1}, {turnedExample(3), at("1", "1"), at("1", "1"), 2, 1},
		{example(), at("1", "0"), at("7", "4"), 2, 0}, {example(), at("4", "4"), at("1", "-1"), 1, 0}, {example(), at("0", "2"), at("4", "1"), 2, 0}, {example(), at("0", "2"), at("4", "-1"), 1, 0}, {example(), at("0", "2"), at("4", "3"), 1, 1},
		// Pockets do not matter, also where the corner is one, and where the ball begins.
		{pocketed(), at("7", "3"), at("1", "1"), 2, 0}, {pocketed(), at("3", "1"), at("1", "-1"), 2, 1}, {pocketed(), at("4", "0"), at("1", "1"), 2, 0},
		{polygon(-7, -3, 1, -3, 1, 1, -7, 1), at("-6", "-2"), at("1", "1"), 1, 1},
	} {
		want(t, "Corner", all(bank.Corner(row.on, row.p, row.d)), all(row.number, row.rebounds, api.OK))
		wantError(t, "Period", all(bank.Period(row.on, row.p, row.d)), api.ErrCorner)
		wantError(t, "Visits", all(bank.Visits(row.on, row.p, row.d)), api.ErrCorner)
	}
}

func TestLargeOrbits(t *testing.T) {
	p := at("1/3", "1/2")
	for _, row := range []struct {
		x, y   api.Rat
		period []any
		visits []any
	}{
		{"499999998", "1", all(999999998, api.OK), all([]int{1, 499999998, 1, 499999998}, api.OK)}, {"499999999", "1", all(0, api.ErrLarge), all([]int{1, 499999999, 1, 499999999}, api.OK)},
		{"1", "-499999998", all(999999998, api.OK), all([]int{499999998, 1, 499999998, 1}, api.OK)}, {"1/499999999", "1", all(0, api.ErrLarge), all([]int{499999999, 1, 499999999, 1}, api.OK)},
		{"999999999", "1", all(0, api.ErrLarge), all([]int{1, 999999999, 1, 999999999}, api.OK)}, {"1", "999999999", all(0, api.ErrLarge), all([]int{999999999, 1, 999999999, 1}, api.OK)},
		{"1000000000", "1", all(0, api.ErrLarge), all([]int{}, api.ErrLarge)}, {"1", "1000000000", all(0, api.ErrLarge), all([]int{}, api.ErrLarge)},
		{nines(600), "1/" + nines(600), all(0, api.ErrLarge), all([]int{}, api.ErrLarge)}, {nines(600), "0", all(2, api.OK), all([]int{0, 1, 0, 1}, api.OK)}, {nines(600), "-" + nines(600), all(4, api.OK), all([]int{1, 1, 1, 1}, api.OK)},
		{"1/" + nines(600), "2/" + nines(600), all(6, api.OK), all([]int{2, 1, 2, 1}, api.OK)},
		// A count of 2 to the power of 64 is not one of 0.
		{"18446744073709551616", "1", all(0, api.ErrLarge), all([]int{}, api.ErrLarge)}, {"9223372036854775807", "1", all(0, api.ErrLarge), all([]int{}, api.ErrLarge)},
	} {
		want(t, "Period", all(bank.Period(square(), p, at(row.x, row.y))), row.period)
		want(t, "Visits", all(bank.Visits(square(), p, at(row.x, row.y))), row.visits)
	}
	// From the middle the ball comes to the top after half of an odd number of lengths: so to a corner.
	middle := at("1/2", "1/2")
	for _, row := range []struct {
		x      api.Rat
		corner []any
	}{
		{"1", all(2, 0, api.OK)}, {"3", all(3, 1, api.OK)}, {"1999999997", all(2, 999999998, api.OK)}, {"1999999999", all(3, 999999999, api.OK)}, {"2000000001", all(0, 0, api.ErrLarge)}, {nines(600), all(0, 0, api.ErrLarge)},
	} {
		want(t, "Corner", all(bank.Corner(square(), middle, at(row.x, "1"))), row.corner)
		wantError(t, "Period", all(bank.Period(square(), middle, at(row.x, "1"))), api.ErrCorner)
		wantError(t, "Visits", all(bank.Visits(square(), middle, at(row.x, "1"))), api.ErrCorner)
	}
	wantError(t, "Corner", all(bank.Corner(square(), middle, at("2000000000", "1"))), api.ErrNone)
	wantError(t, "Corner", all(bank.Corner(square(), p, at(nines(600), "1/7"+nines(590)))), api.ErrNone)
}

// orbits are the functions of balls on a rectangle.
func orbits() map[string]func(on table.Table, p, d api.Place) []any {
	return map[string]func(on table.Table, p, d api.Place) []any{
		"Period": func(on table.Table, p, d api.Place) []any { return all(bank.Period(on, p, d)) },
		"Visits": func(on table.Table, p, d api.Place) []any { return all(bank.Visits(on, p, d)) },
		"Corner": func(on table.Table, p, d api.Place) []any { return all(bank.Corner(on, p, d)) },
	}
}

func TestErrorsOfOrbits(t *testing.T) {
	good, along := at("5", "1"), at("1", "0")
	for what, f := range orbits() {
		for e, broken := range brokenTables() {
			wantError(t, what+" on a broken table", f(broken, at("", ""), along), e)
		}
		for _, on := range []table.Table{polygon(0, 0, 4, 0, 0, 4), polygon(0, 0, 8, 0, 8, 4, 1, 4), polygon(0, 0, 8, 1, 8, 4, 0, 4), polygon(0, -4, 4, 0, 0, 4, -4, 0), polygon(0, 0, 8, 1, 10, 6, 2, 5), twelve(), polygon(0, 0, 8, 0, 8, 4, 4, 5, 0, 4)} {
			wantError(t, what+" on no rectangle", f(on, at("x", ""), at("", "")), api.ErrKind)
		}
		for p, e := range badPlaces() {
			if e == api.ErrPocket {
				continue
			}
			wantError(t, fmt.Sprintf("%s at %.20v", what, p), f(pocketed(), p, at("0", "0")), e)
		}
		for _, row := range []struct {
			p, d api.Place
			e    api.Errno
		}{
			{at("8", "4"), at("-1", "-1"), api.ErrCorner}, {at("0", "0"), at("x", ""), api.ErrCorner}, {at("3", "0"), at("0", "0"), api.ErrZero}, {at("3", "0"), at("1", "0"), api.ErrRule}, {at("3", "0"), at("1", "-1"), api.ErrRule},
			{good, at("x", large()), api.ErrForm}, {good, at(large(), "x"), api.ErrLarge}, {good, at("0", "2/2"), api.ErrForm}, {good, at("0", "0"), api.ErrZero}, {at("8", "1"), at("0", "0"), api.ErrZero},
			{at("8", "1"), at("0", "1"), api.ErrRule}, {at("8", "1"), at("1", "1"), api.ErrRule}, {at("5", "4"), at("1", "0"), api.ErrRule}, {at("0", "1"), at("0", "-1"), api.ErrRule}, {at("0", "1"), at("-1/"+nines(600), "-1"), api.ErrRule},
		} {
			wantError(t, what, f(pocketed(), row.p, row.d), row.e)
		}
	}
}

// someRectangle returns a rectangle, with its corners from any of them on, and some pockets.
func someRectangle(r *rand.Rand) table.Table {
	x, y, width, height := r.Intn(9)-4, r.Intn(9)-4, 1+r.Intn(6), 1+r.Intn(6)
	on := polygon(x, y, x+width, y, x+width, y+height, x, y+height)
	k := r.Intn(4)
	on.Corners = slices.Concat(on.Corners[k:], on.Corners[:k])
	if r.Intn(2) == 0 {
		on.Pockets = []table.Pocket{pocket(r.Intn(4), "0", "1/2"), pocket(r.Intn(4), "2/3", "1")}
	}
	return on
}

func TestOrbitsAgainstWalks(t *testing.T) {
	r := rand.New(rand.NewSource(6))
	counts := map[string]int{}
	for range 1500 {
		on := someRectangle(r)
		if table.CheckTable(on) != api.OK {
			continue
		}
		open := table.Table{Corners: on.Corners, Radius: 1}
		p, d := somePlace(t, r, open), someDirection(r)
		if isRefused(t, on, p, d) {
			continue
		}
		hits, end, e := bank.Walk(open, p, d, api.MaxList)
		wantError(t, "Walk", all(e), api.OK)
		if end == "corner" {
			counts["corner"]++
			last := hit(0, p.X, p.Y, d.X, d.Y)
			if len(hits) > 0 {
				last = hits[len(hits)-1]
			}
			want(t, "Corner", all(bank.Corner(on, p, d)), all(cornerAhead(t, on, last), len(hits), api.OK))
			wantError(t, "Period", all(bank.Period(on, p, d)), api.ErrCorner)
			wantError(t, "Visits", all(bank.Visits(on, p, d)), api.ErrCorner)
			continue
		}
		period := 1 + slices.IndexFunc(hits, func(h bank.Hit) bool { return isBack(t, h, p, d) })
		if period == 0 {
			t.Fatalf("%v: a ball from %v along %v is never back", on, p, d)
		}
		counts["period"]++
		visits := make([]int, 4)
		for _, h := range hits[:period] {
			visits[h.Edge]++
		}
		want(t, "Period", all(bank.Period(on, p, d)), all(period, api.OK))
		want(t, "Visits", all(bank.Visits(on, p, d)), all(visits, api.OK))
		wantError(t, "Corner", all(bank.Corner(on, p, d)), api.ErrNone)
	}
	if min(counts["corner"], counts["period"]) < 200 {
		t.Errorf("only few ways of one kind: %v", counts)
	}
}

// isBack reports whether a place is on the way behind a rebound, which goes in a direction.
func isBack(t *testing.T, h bank.Hit, p, d api.Place) bool {
	way, along := minus(value(t, p), value(t, h.At)), value(t, d)
	return h.Then == d && cross(way, along).Sign() == 0 && dot(way, along).Sign() >= 0
}

// cornerAhead returns the number of the corner that is on the way behind a rebound.
func cornerAhead(t *testing.T, on table.Table, h bank.Hit) int {
	return slices.IndexFunc(on.Corners, func(c api.Point) bool { return isBack(t, h, text(corner(c)), h.Then) })
}
