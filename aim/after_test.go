package aim_test

import (
	"fmt"
	"math"
	"math/rand"
	"testing"

	"baulk/aim"
	"baulk/api"
	"baulk/number"
	"baulk/table"
)

// Tests of P4.2 (after the contact).

// turned returns a table from 0 0 to 100 100 with the radius 5, on which the cue ball, going along the X axis, hits the
// ball a so that it goes in the direction 6 8 to the corner 100 100; the root of D is 6.
func turned(pockets ...table.Pocket) (table.Table, []table.Ball) {
	t := polygon(5, 0, 0, 100, 0, 100, 100, 0, 100)
	t.Pockets = pockets
	return t, balls("55", "52", "70", "60")
}

func TestAfter(t *testing.T) {
	x := at("1", "0")
	want(t, "After", all(aim.After(example(), layout(), "cue", x)), all(spot("0", "1", "0", "0", "3600"), spot("0", "0", "0", "0", "3600"), api.OK))
	on, l := turned()
	want(t, "After", all(aim.After(on, l, "cue", x)), all(spot("0", "1", "8", "0", "36"), spot("16/25", "0", "0", "-2/25", "36"), api.OK))
	// The direction is twice as long, and so is m; n is as long as before.
	want(t, "After", all(aim.After(on, l, "cue", at("2", "0"))), all(spot("0", "1/2", "8", "0", "144"), spot("32/25", "0", "0", "-2/25", "144"), api.OK))
	want(t, "After", all(aim.After(field(), balls("20", "30", "30", "31"), "cue", x)), all(spot("0", "1", "1", "0", "3"), spot("1/4", "0", "0", "-1/4", "3"), api.OK))
}

func TestEntries(t *testing.T) {
	x, up := at("1", "0"), at("1", "1")
	on, l := turned()
	slope := polygon(5, 0, 0, 60, 0, 30, 40)
	for _, row := range []struct {
		on        table.Table
		balls     []table.Ball
		direction api.Place
		edge      int
		share     api.Surd
		value     api.Rat
	}{
		{example(), layout(), x, 1, surd("1/2", "0", "3600"), "1/2"},
		// A corner is on the edge with the lesser number.
		{on, l, x, 1, surd("3/5", "1/15", "36"), "1"}, {on, l, at("3", "0"), 1, surd("3/5", "1/45", "324"), "1"}, {field(), balls("60", "20", "80", "40"), up, 1, surd("1", "0", "8"), "1"}, {field(), balls("40", "40", "20", "20"), at("-1", "-1"), 0, surd("0", "0", "8"), "0"},
		{field(), balls("40", "20", "20", "40"), at("-1", "1"), 2, surd("1", "0", "8"), "1"},
		// The direction of the ball that is hit, mirrored in the way of the cue ball, is along the edge: the quotient has
		// no root.
		{slope, balls("10", "4", "25", "12"), x, 1, surd("667/750", "-13/500", "36"), "11/15"},
		// A ball on an edge that is hit outwards is there already.
		{field(), balls("90", "30", "100", "30"), x, 1, surd("1/2", "0", "4"), "1/2"}, {field(), balls("90", "30", "100", "31"), x, 1, surd("31/60", "0", "3"), "31/60"}, {field(), balls("90", "50", "100", "60"), up, 1, surd("1", "0", "8"), "1"}, {field(), balls("90", "60", "98", "60"), x, 1, surd("1", "0", "4"), "1"},
	} {
		what := fmt.Sprintf("Entry with %v along %v", row.balls, row.direction)
		want(t, what, all(aim.Entry(row.on, row.balls, "cue", row.direction)), all(row.edge, row.share, api.OK))
		order, e := number.SurdOrder(row.share, surd(row.value, "0", "1"))
		want(t, what, all(order, e), all(0, api.OK))
	}
}

func TestPots(t *testing.T) {
	x, up := at("1", "0"), at("1", "1")
	for _, row := range []struct {
		pockets []table.Pocket
		pocket  string
	}{
		// The end of a pocket belongs to it, and a corner belongs to both edges.
		{nil, ""}, {[]table.Pocket{pocket("p", 1, "1", "1")}, "p"}, {[]table.Pocket{pocket("p", 1, "0", "1")}, "p"}, {[]table.Pocket{pocket("p", 1, "0", nines(300)+"/"+ten(300))}, ""}, {[]table.Pocket{pocket("p", 2, "0", "0")}, "p"}, {[]table.Pocket{pocket("p", 2, "1/"+ten(300), "1")}, ""},
		{[]table.Pocket{pocket("q", 2, "0", "1/2"), pocket("p", 1, "1/2", "1")}, "q"}, {[]table.Pocket{pocket("p", 1, "1/2", "1"), pocket("q", 2, "0", "1/2")}, "p"}, {[]table.Pocket{pocket("p", 0, "1", "1"), pocket("q", 3, "0", "0")}, ""},
	} {
		on, l := turned(row.pockets...)
		want(t, fmt.Sprintf("Pots with %v", row.pockets), all(aim.Pots(on, l, "cue", x)), all("a", row.pocket, api.OK))
	}
	for _, row := range []struct {
		from, to api.Rat
		pocket   string
	}{
		{"1/2", "1/2", "p"}, {"0", "1/2", "p"}, {"1/2", "1", "p"}, {"0", "1", "p"}, {"0", nines(599) + "/2" + ten(599)[1:], ""}, {ten(598) + "1/2" + ten(599)[1:], "1", ""}, {"0", "1/3", ""},
	} {
		on := field(pocket("p", 1, row.from, row.to))
		want(t, fmt.Sprintf("Pots of a pocket from %.9s to %.9s", row.from, row.to), all(aim.Pots(on, balls("60", "30", "80", "30"), "cue", x)), all("a", row.pocket, api.OK))
	}
	on := field(pocket("p", 1, "0", "1"), pocket("q", 2, "0", "1"))
	want(t, "Pots to an edge", all(aim.Pots(on, balls("90", "30", "100", "31"), "cue", x)), all("a", "p", api.OK))
	want(t, "Pots", all(aim.Pots(example(), layout(), "cue", x)), all("one", "c", api.OK))
	want(t, "Pots", all(aim.Pots(example(), layout(), "one", at("0", "1"))), all("two", "", api.OK))
	want(t, "Pots upwards", all(aim.Pots(on, balls("60", "20", "80", "40"), "cue", up)), all("a", "p", api.OK))
}

func TestBlockedPots(t *testing.T) {
	x, up := at("1", "0"), at("1", "1")
	straight := []api.Rat{"20", "30", "40", "30"}
	aside := []api.Rat{"70", "10", "80", "20"} // then a goes to 100 40
	for _, row := range []struct {
		balls     []table.Ball
		direction api.Place
		e         api.Errno
	}{
		{balls(straight...), x, api.OK}, {balls(append(straight, "60", "30")...), x, api.ErrBlocked}, {balls(append(straight, "42", "30")...), x, api.ErrBlocked}, {balls(append(straight, "60", "63/2")...), x, api.ErrBlocked},
		// What a would just touch does not block it, nor does what it goes away from.
		{balls(append(straight, "60", "32")...), x, api.OK}, {balls(append(straight, "60", "28")...), x, api.OK}, {balls(append(straight, "60", "28", "60", "31")...), x, api.ErrBlocked}, {balls(append(straight, "40", "32")...), x, api.OK}, {balls(append(straight, "10", "30")...), x, api.OK},
		{balls("20", "30", "22", "30"), x, api.OK},
		// The way of a ends at 100 40, just when it comes to b; all numbers have the root of 8.
		{balls(append(aside, "100", "42")...), up, api.OK}, {balls(append(aside, "100", "43")...), up, api.OK}, {balls(append(aside, "100", "41999999/1000000")...), up, api.ErrBlocked}, {balls(append(aside, "100", "42000001/1000000")...), up, api.OK}, {balls(append(aside, "100", "40")...), up, api.ErrBlocked},
		// A ball at an edge has no way left on which it could be blocked.
		{balls("90", "30", "100", "30", "100", "32"), x, api.OK}, {balls("90", "30", "100", "30", "100", "32"), at("20", "-1"), api.OK}, {balls("100", "20", "100", "30", "100", "34"), at("0", "1"), api.ErrBlocked},
	} {
		what := fmt.Sprintf("Pots with %v along %v", row.balls, row.direction)
		name := "a"
		if row.e != api.OK {
			name = ""
		}
		want(t, what, all(aim.Pots(field(), row.balls, "cue", row.direction)), all(name, "", row.e))
	}
}

func TestAfterAgainstLibrary(t *testing.T) {
	counts := map[string]int{}
	someWays(t, 3, 1200, func(c collision, on table.Table, l []table.Ball, cue string, d api.Place) {
		if c.name == "" {
			return
		}
		what := fmt.Sprintf("%v: %s in %v along %v", on, cue, l, d)
		want(t, "After on "+what, all(aim.After(on, l, cue, d)), all(c.n.text(), c.m.text(), api.OK))
		want(t, "Entry on "+what, all(aim.Entry(on, l, cue, d)), all(c.edge, c.share.text(), api.OK))
		if c.isBlocked {
			counts["blocked"]++
			wantError(t, "Pots on "+what, all(aim.Pots(on, l, cue, d)), api.ErrBlocked)
			return
		}
		if c.pocket != "" {
			counts["pocket"]++
		} else {
			counts["cushion"]++
		}
		want(t, "Pots on "+what, all(aim.Pots(on, l, cue, d)), all(c.name, c.pocket, api.OK))
	})
	if min(counts["blocked"], counts["pocket"], counts["cushion"]) < 60 {
		t.Errorf("only few ways of one kind: %v", counts)
	}
}

func TestGhosts(t *testing.T) {
	for _, row := range []struct {
		radius       int
		ball, target api.Place
		ghost        aim.Place
	}{
		{30, at("1000", "500"), at("2000", "500"), aim.Place{X: surd("1000", "-3/50", "1000000"), Y: surd("500", "0", "1000000")}}, {1, at("0", "0"), at("1", "1"), spot("0", "-1", "0", "-1", "2")}, {5, at("3", "4"), at("0", "0"), spot("3", "6/5", "4", "8/5", "25")},
		{1, at("1/2", "1/3"), at("0", "0"), spot("1/2", "36/13", "1/3", "24/13", "13/36")}, {1000, at("-1", "0"), at("-1", "1/7"), spot("-1", "0", "0", "-14000", "1/49")}, {1, at("0", "0"), at("3"+ten(299)[1:], "0"), spot("0", "-1/15"+ten(298)[1:], "0", "0", "9"+ten(598)[1:])},
	} {
		want(t, fmt.Sprintf("Ghost of %v for %v", row.ball, row.target), all(aim.Ghost(row.radius, row.ball, row.target)), all(row.ghost, api.OK))
	}
	wantError(t, "Ghost", all(aim.Ghost(1, at("0", "0"), at(ten(300), "0"))), api.ErrLarge)
	wantError(t, "Ghost", all(aim.Ghost(1, at("0", "0"), at("0", "1/"+ten(300)))), api.ErrLarge)
	want(t, "Ghost", all(aim.Ghost(1, at(nines(600), "0"), at(nines(599)+"8", "0"))), all(spot(nines(600), "2", "0", "0", "1"), api.OK))
}

func TestCuts(t *testing.T) {
	for _, row := range []struct {
		radius            int
		cue, ball, target api.Place
		cut               int
	}{
		{30, at("500", "500"), at("1000", "500"), at("2000", "500"), 1}, {30, at("940", "0"), at("1000", "500"), at("2000", "500"), 0}, {30, at("1500", "500"), at("1000", "500"), at("2000", "500"), -1}, {30, at("940", "500"), at("1000", "500"), at("2000", "500"), 0},
		{30, at("939999/1000", "0"), at("1000", "500"), at("2000", "500"), 1}, {30, at("940001/1000", "0"), at("1000", "500"), at("2000", "500"), -1}, {30, at("940", "-70000"), at("1000", "500"), at("1001", "500"), 0},
		// The ghost is at -root 2 -root 2.
		{1, at("-3/2", "-4/3"), at("0", "0"), at("1", "1"), 1}, {1, at("-3/2", "-5/4"), at("0", "0"), at("1", "1"), -1}, {1, at("-282842712474619/200000000000000", "-282842712474619/200000000000000"), at("0", "0"), at("1", "1"), -1}, {1, at("-1767766952966369/1250000000000000", "-1767766952966369/1250000000000000"), at("0", "0"), at("1", "1"), 1},
		{5, at("9", "12"), at("3", "4"), at("0", "0"), 0}, {5, at("17", "6"), at("3", "4"), at("0", "0"), 0}, {5, at("9", "12"), at("3", "4"), at("-3", "-4"), 0}, {5, at("9", "13"), at("3", "4"), at("0", "0"), 1}, {5, at("9", "11"), at("3", "4"), at("0", "0"), -1}, {5, at("3", "4"), at("3", "4"), at("0", "0"), -1}, {5, at("9/2", "1/3"), at("3", "4"), at("1", "0"), -1},
		{1, at(nines(600), "0"), at("1/"+nines(600), "0"), at("-"+nines(600), "0"), 1}, {1, at("-"+nines(600), "0"), at("0", "0"), at("-"+nines(600), "0"), -1},
	} {
		want(t, fmt.Sprintf("Cut from %.30v of %.30v for %.30v", row.cue, row.ball, row.target), all(aim.Cut(row.radius, row.cue, row.ball, row.target)), all(row.cut, api.OK))
	}
}

func TestCutsAgainstLibrary(t *testing.T) {
	r := rand.New(rand.NewSource(4))
	counts := map[int]int{}
	for range 2000 {
		radius := 1 + r.Intn(3)
		coordinate := func() api.Rat { return twelfths(6*r.Intn(41) - 120) }
		c, b, g := at(coordinate(), coordinate()), at(coordinate(), coordinate()), at(coordinate(), coordinate())
		if r.Intn(3) == 0 {
			g.Y = b.Y
		}
		if b == g {
			continue
		}
		u := minus(value(t, b), value(t, g))
		length := rootR(realOf(dot(u, u)))
		way := realsOf(minus(value(t, b), value(t, c)))
		for i := range way {
			way[i] = sumR(way[i], overR(timesR(realOf(whole(2*radius)), realOf(u[i])), length))
		}
		wanted := signOf(dotR(way, realsOf(minus(value(t, g), value(t, b)))))
		counts[wanted]++
		want(t, fmt.Sprintf("Cut with %d from %v of %v for %v", radius, c, b, g), all(aim.Cut(radius, c, b, g)), all(wanted, api.OK))
	}
	if min(counts[1], counts[-1]) < 200 || counts[0] < 5 {
		t.Errorf("only few cuts of one kind: %v", counts)
	}
}

func TestErrorsOfGhostsAndCuts(t *testing.T) {
	o, x, bad := at("0", "0"), at("1", "0"), at("x", "")
	for _, radius := range []int{0, -1, 1001, math.MinInt, math.MaxInt} {
		wantError(t, "Ghost", all(aim.Ghost(radius, bad, bad)), api.ErrRange)
		wantError(t, "Cut", all(aim.Cut(radius, bad, bad, bad)), api.ErrRange)
	}
	for p, e := range badPlaces() {
		wantError(t, "Ghost", all(aim.Ghost(1, p, at("1/1", "0"))), e)
		wantError(t, "Ghost", all(aim.Ghost(1000, o, p)), e)
		wantError(t, "Ghost", all(aim.Ghost(1, p, p)), e)
		wantError(t, "Cut", all(aim.Cut(1, p, at("1/1", "0"), o)), e)
		wantError(t, "Cut", all(aim.Cut(1, x, p, at("1/1", "0"))), e)
		wantError(t, "Cut", all(aim.Cut(1000, x, x, p)), e)
	}
	wantError(t, "Ghost", all(aim.Ghost(1, o, o)), api.ErrZero)
	wantError(t, "Cut", all(aim.Cut(1, x, at("1/2", "-1/3"), at("1/2", "-1/3"))), api.ErrZero)
}
