package bank_test

import (
	"math"
	"math/big"
	"math/rand"
	"testing"

	"baulk/api"
	"baulk/bank"
	"baulk/table"
)

// Tests of P3.4 (rolling).

// hit returns a rebound.
func hit(edge int, x, y, thenX, thenY api.Rat) bank.Hit {
	return bank.Hit{Edge: edge, At: at(x, y), Then: at(thenX, thenY)}
}

func TestSteps(t *testing.T) {
	slanted := polygon(0, 0, 4, 2, 0, 6)
	for _, row := range []struct {
		on   table.Table
		p, d api.Place
		hit  bank.Hit
	}{
		{example(), at("1", "1"), at("1", "1"), hit(2, "4", "4", "1", "-1")}, {example(), at("2", "1"), at("1", "1"), hit(2, "5", "4", "1", "-1")}, {example(), at("5", "4"), at("1", "-1"), hit(1, "8", "1", "-1", "-1")},
		{example(), at("8", "1"), at("-1", "-1"), hit(0, "7", "0", "-1", "1")}, {example(), at("1", "1"), at("-1/3", "0"), hit(3, "0", "1", "1/3", "0")}, {example(), at("1", "1"), at("0", "-1000"), hit(0, "1", "0", "0", "1000")},
		{example(), at("1", "0"), at("0", "1/7"), hit(2, "1", "4", "0", "-1/7")}, {example(), at("0", "1"), at("16", "1"), hit(1, "8", "3/2", "-16", "1")},
		// The way from an edge, hardly inwards, and just beside a corner or a pocket.
		{example(), at("7", "0"), at(nines(300), "1/"+nines(300)), hit(1, "8", "1/"+api.Rat(square300()), "-"+nines(300), "1/"+nines(300))},
		{example(), at("1", "1"), at("7", "3001/1000"), hit(2, "24001/3001", "4", "7", "-3001/1000")}, {example(), at("1", "1"), at("7", "2999/1000"), hit(1, "8", "3999/1000", "-7", "2999/1000")},
		{pocketed(), at("1", "1"), at("999/1000", "-1"), hit(0, "1999/1000", "0", "999/1000", "1")}, {pocketed(), at("5", "1"), at("-999/1000", "-1"), hit(0, "4001/1000", "0", "-999/1000", "1")},
		// The first edge leads along 2, 1: it turns 0, -5 into -4, 3.
		{slanted, at("2", "3"), at("0", "-5"), hit(0, "2", "1", "-4", "3")}, {slanted, at("1", "3"), at("1", "0"), hit(1, "3", "3", "0", "-1")},
		{slanted, at("1", "3"), at("1", "1"), hit(1, "2", "4", "-1", "-1")}, {slanted, at("1", "3"), at("-2", "1"), hit(2, "0", "7/2", "2", "1")},
	} {
		want(t, "Step", all(bank.Step(row.on, row.p, row.d)), all(row.hit, api.OK))
		want(t, "Walk", all(bank.Walk(row.on, row.p, row.d, 1)), all([]bank.Hit{row.hit}, "", api.OK))
	}
}

func TestEndsOfWays(t *testing.T) {
	corners := example(pocket(0, "1", "1"), pocket(3, "0", "1/16"))
	for _, row := range []struct {
		on   table.Table
		p, d api.Place
		end  string
	}{
		{example(), at("1", "1"), at("-1", "-1"), "corner"}, {example(), at("7", "1"), at("1", "-1"), "corner"}, {example(), at("7", "3"), at("1/2", "1/2"), "corner"}, {example(), at("1", "0"), at("-1", "4"), "corner"},
		{polygon(0, 0, 4, 2, 0, 6), at("1", "2"), at("1", "0"), "corner"}, {corners, at("1", "1"), at("-1", "-1"), "corner"}, {corners, at("7", "3"), at("1", "1"), "corner"},
		// A corner that belongs to a pocket of one of its edges is the pocket.
		{corners, at("7", "1"), at("1", "-1"), "pocket"}, {corners, at("1", "3"), at("-1", "1"), "pocket"}, {pocketed(), at("7", "3"), at("1", "1"), "pocket"},
		{pocketed(), at("1", "1"), at("1", "-1"), "pocket"}, {pocketed(), at("5", "1"), at("-1", "-1"), "pocket"}, {pocketed(), at("3", "3"), at("0", "-1"), "pocket"}, {corners, at("1", "31/8"), at("-1", "0"), "pocket"},
	} {
		e := map[string]api.Errno{"corner": api.ErrCorner, "pocket": api.ErrPocket}[row.end]
		wantError(t, "Step", all(bank.Step(row.on, row.p, row.d)), e)
		want(t, "Walk", all(bank.Walk(row.on, row.p, row.d, 1)), all([]bank.Hit{}, row.end, api.OK))
		want(t, "Walk", all(bank.Walk(row.on, row.p, row.d, api.MaxList)), all([]bank.Hit{}, row.end, api.OK))
		want(t, "Walk of no rebounds", all(bank.Walk(row.on, row.p, row.d, 0)), all([]bank.Hit{}, "", api.OK))
	}
}

func TestWalks(t *testing.T) {
	round := []bank.Hit{hit(2, "5", "4", "1", "-1"), hit(1, "8", "1", "-1", "-1"), hit(0, "7", "0", "-1", "1"), hit(2, "3", "4", "-1", "-1"), hit(3, "0", "1", "1", "-1"), hit(0, "1", "0", "1", "1")}
	for n := range 7 {
		want(t, "Walk", all(bank.Walk(example(), at("2", "1"), at("1", "1"), n)), all(round[:n], "", api.OK))
	}
	hits, end, e := bank.Walk(example(), at("2", "1"), at("1", "1"), api.MaxList)
	if len(hits) != api.MaxList || end != "" || e != api.OK {
		t.Fatalf("Walk of 256 rebounds: %d, %q, and the error %d", len(hits), end, e)
	}
	for i, h := range hits {
		want(t, "a rebound", all(h), all(round[i%6]))
	}
	first := hit(2, "4", "4", "1", "-1")
	want(t, "Walk to a corner", all(bank.Walk(example(), at("1", "1"), at("1", "1"), 2)), all([]bank.Hit{first}, "corner", api.OK))
	want(t, "Walk that stops before it", all(bank.Walk(example(), at("1", "1"), at("1", "1"), 1)), all([]bank.Hit{first}, "", api.OK))
	want(t, "Walk to a pocket", all(bank.Walk(example(pocket(1, "0", "1/9")), at("1", "1"), at("1", "1"), 9)), all([]bank.Hit{first}, "pocket", api.OK))
	want(t, "Walk to another pocket", all(bank.Walk(example(pocket(3, "1/2", "7/8")), at("2", "1"), at("1", "1"), 9)), all(round[:4], "pocket", api.OK))
}

func TestLargeWalks(t *testing.T) {
	low := at("1", "1/"+nines(600))
	// The place on the right is 1/5 farther up.
	wantError(t, "Step", all(bank.Step(example(), low, at("35", "1"))), api.ErrLarge)
	wantError(t, "Walk", all(bank.Walk(example(), low, at("35", "1"), 1)), api.ErrLarge)
	want(t, "Walk of no rebounds", all(bank.Walk(example(), low, at("35", "1"), 0)), all([]bank.Hit{}, "", api.OK))
	want(t, "Step across", all(bank.Step(example(), low, at("1", "0"))), all(hit(1, "8", low.Y, "-1", "0"), api.OK))
	// A direction may be too large when it is turned: 0, -5 becomes -4, 3.
	slanted := polygon(0, 0, 4, 2, 0, 6)
	zeros := large()[1:api.MaxDigits]
	want(t, "Step", all(bank.Step(slanted, at("2", "3"), at("0", "-5"+zeros))), all(hit(0, "2", "1", "-4"+zeros, "3"+zeros), api.OK))
	wantError(t, "Step", all(bank.Step(slanted, at("2", "3"), at("0", "-1/"+nines(600)))), api.ErrLarge)
	wantError(t, "Walk", all(bank.Walk(slanted, at("2", "3"), at("0", "-1/"+nines(600)), 1)), api.ErrLarge)
	// Only the rebounds of the result count: the fifth one turns 4, -3 over 5 at the first edge again.
	slow := at("0", "-1/"+nines(599))
	wantError(t, "Walk of 4 rebounds", all(bank.Walk(slanted, at("2", "3"), slow, 4)), api.OK)
	wantError(t, "Walk of 5 rebounds", all(bank.Walk(slanted, at("2", "3"), slow, 5)), api.ErrLarge)
	// What is larger than the result on the way to it does not matter.
	want(t, "Step to a corner", all(bank.Step(example(), at("1/"+nines(600), "1/1"+zeros), at("-1/"+nines(600), "-1/1"+zeros))), all(bank.Hit{}, api.ErrCorner))
}

func TestErrorsOfRolling(t *testing.T) {
	good, along := at("5", "1"), at("1", "0")
	for what, f := range map[string]func(on table.Table, p, d api.Place) []any{
		"Step":           func(on table.Table, p, d api.Place) []any { return all(bank.Step(on, p, d)) },
		"Walk":           func(on table.Table, p, d api.Place) []any { return all(bank.Walk(on, p, d, 3)) },
		"Walk of nobody": func(on table.Table, p, d api.Place) []any { return all(bank.Walk(on, p, d, 0)) },
	} {
		errorsOfPlaces(t, what, good, func(on table.Table, p api.Place) []any { return f(on, p, along) })
		for _, row := range []struct {
			p, d api.Place
			e    api.Errno
		}{
			{at("3", "0"), at("", ""), api.ErrPocket}, {at("0", "0"), at("0", "0"), api.ErrCorner}, {good, at("x", large()), api.ErrForm}, {good, at(large(), "x"), api.ErrLarge}, {good, at("0", "-0"), api.ErrForm},
			{good, at("0", "0"), api.ErrZero}, {at("5", "0"), at("0", "0"), api.ErrZero}, {at("5", "0"), at("1", "0"), api.ErrRule}, {at("5", "0"), at("-1", "0"), api.ErrRule}, {at("5", "0"), at("1", "-1/"+nines(600)), api.ErrRule},
			{at("8", "1"), at("1", "1"), api.ErrRule}, {at("8", "1"), at("0", "-1"), api.ErrRule}, {at("5", "4"), at("0", "1"), api.ErrRule}, {at("0", "1"), at("-1", "1"), api.ErrRule}, {at("0", "1"), at("1/"+nines(600), "0"), api.OK},
		} {
			wantError(t, what, f(pocketed(), row.p, row.d), row.e)
		}
	}
	for n, e := range map[int]api.Errno{-1: api.ErrRange, 257: api.ErrRange, math.MinInt: api.ErrRange, math.MaxInt: api.ErrRange, 256: api.OK} {
		wantError(t, "Walk", all(bank.Walk(example(), good, along, n)), e)
	}
	wantError(t, "Walk", all(bank.Walk(example(), at("5", "0"), along, -1)), api.ErrRule)
	wantError(t, "Walk", all(bank.Walk(example(), good, at("0", "0"), -1)), api.ErrZero)
}

// roll returns the next rebound, or how the way ends, by the times at which the ball comes to the line of each edge.
func roll(t *testing.T, on table.Table, p, d vector) (bank.Hit, string) {
	t.Helper()
	first, least := -1, new(big.Rat)
	for edge := range on.Corners {
		_, along := edgeOf(on, edge)
		left, speed := leftOf(on, edge, p), new(big.Rat).Neg(cross(along, d))
		if left.Sign() == 0 || speed.Sign() <= 0 {
			continue
		}
		if time := new(big.Rat).Quo(left, speed); first < 0 || time.Cmp(least) < 0 {
			first, least = edge, time
		}
	}
	place := plus(p, least, d)
	if why := obstacleAt(on, first, shareOf(on, first, place)); why != "" {
		return bank.Hit{}, why
	}
	// The way that the ball would go on is mirrored at the edge.
	then := minus(mirrored(on, first, plus(place, big.NewRat(1, 1), d)), place)
	return bank.Hit{Edge: first, At: text(place), Then: text(then)}, ""
}

func TestRollingAgainstLibrary(t *testing.T) {
	r := rand.New(rand.NewSource(5))
	counts := map[string]int{}
	for range 1500 {
		on := someTable(t, r)
		p, d := somePlace(t, r, on), someDirection(r)
		if isRefused(t, on, p, d) {
			counts["refused"]++
			wantError(t, "Step", all(bank.Step(on, p, d)), api.ErrRule)
			continue
		}
		n, end := r.Intn(8), ""
		hits := []bank.Hit{}
		for x, v := value(t, p), value(t, d); len(hits) < n && end == ""; {
			var h bank.Hit
			if h, end = roll(t, on, x, v); end == "" {
				hits = append(hits, h)
				x, v = value(t, h.At), value(t, h.Then)
			}
		}
		counts[end]++
		want(t, "Walk", all(bank.Walk(on, p, d, n)), all(hits, end, api.OK))
		if len(hits) > 0 {
			want(t, "Step", all(bank.Step(on, p, d)), all(hits[0], api.OK))
		}
	}
	for _, end := range []string{"", "pocket", "corner", "refused"} {
		if counts[end] < 20 {
			t.Errorf("only few ways with one end: %v", counts)
			break
		}
	}
}

// isRefused reports whether a place is on an edge, and a direction does not lead strictly to its left.
func isRefused(t *testing.T, on table.Table, p, d api.Place) bool {
	for edge := range on.Corners {
		_, along := edgeOf(on, edge)
		if leftOf(on, edge, value(t, p)).Sign() == 0 && cross(along, value(t, d)).Sign() <= 0 {
			return true
		}
	}
	return false
}
