package table_test

import (
	"math/rand"
	"slices"
	"testing"

	"baulk/api"
	"baulk/table"
)

// Tests of P2.2 (layouts); those of racks are in rack_test.go.

func TestCheckLayout(t *testing.T) {
	for _, row := range []struct {
		balls []table.Ball
		e     api.Errno
	}{
		{nil, api.OK}, {exampleBalls(), api.OK}, {[]table.Ball{ball("a", "0", "0"), ball("b", "2000", "1000"), ball("foot", "2000", "0")}, api.OK},
		// Balls that touch do not overlap, also if they do so across.
		{[]table.Ball{ball("a", "100", "100"), ball("b", "136", "148"), ball("c", "40", "100")}, api.OK}, {[]table.Ball{ball("a", "0", "0"), ball("b", "288/5", "84/5")}, api.OK},
		{[]table.Ball{ball("a", "500", "500"), ball("b", "559", "500")}, api.ErrOverlap}, {[]table.Ball{ball("a", "500", "500"), ball("b", "500", "500")}, api.ErrOverlap},
		{[]table.Ball{ball("a", "500", "500"), ball("b", "60", "60"), ball("c", "0", "60")}, api.OK}, {[]table.Ball{ball("a", "0", "0"), ball("b", "288/5", "83/5")}, api.ErrOverlap},
		{[]table.Ball{ball("a", "0", "0"), ball("b", "60", "0"), ball("c", "599999/10000", "1")}, api.ErrOverlap},
		{[]table.Ball{ball("", "x", "")}, api.ErrName}, {[]table.Ball{ball("a", "500", "500"), ball("b", "700", "500"), ball("a", "x", "")}, api.ErrTwice},
		{[]table.Ball{ball("a", "x", large())}, api.ErrForm}, {[]table.Ball{ball("a", large(), "x")}, api.ErrLarge}, {[]table.Ball{ball("a", "-1", large())}, api.ErrLarge},
		{[]table.Ball{ball("a", "0", "0"), ball("b", "-1", "0")}, api.ErrOutside}, {[]table.Ball{ball("a", "2000", "1001")}, api.ErrOutside},
		// The first ball with an error counts.
		{[]table.Ball{ball("a", "-1", "0"), ball("", "", "")}, api.ErrOutside}, {[]table.Ball{ball("a", "1", "0"), ball("b", "1", "0"), ball("", "", "")}, api.ErrOverlap},
		{[]table.Ball{ball("", "0", "0"), ball("b", "x", "0")}, api.ErrName},
	} {
		wantError(t, "CheckLayout", table.CheckLayout(example(), row.balls), row.e)
	}
	var many []table.Ball
	for i := range 25 {
		many = append(many, ball("b"+string(rune('a'+i)), text(whole(60*i)), "0"))
	}
	wantError(t, "CheckLayout with 24 balls", table.CheckLayout(example(), many[:24]), api.OK)
	wantError(t, "CheckLayout with 25 balls", table.CheckLayout(example(), many), api.ErrMany)
	wantError(t, "CheckLayout with 25 bad balls", table.CheckLayout(example(), make([]table.Ball, 25)), api.ErrMany)
	for _, broken := range brokenTables() {
		wantError(t, "CheckLayout", table.CheckLayout(broken.value, make([]table.Ball, 25)), broken.err)
	}
}

func TestFree(t *testing.T) {
	for _, row := range []struct {
		p    api.Place
		free bool
		e    api.Errno
	}{
		{place("1440", "500"), true, api.OK}, {place("1450", "500"), false, api.OK}, {place("1440000000001/1000000000", "500"), false, api.OK}, {place("1620", "500"), true, api.OK},
		{place("1530", "552"), true, api.OK}, {place("1530", "551"), false, api.OK}, {place("464", "452"), true, api.OK}, {place("465", "452"), false, api.OK},
		{place("0", "0"), true, api.OK}, {place("2000", "1/3"), true, api.OK}, {place("2001", "500"), false, api.OK}, {place("0", "-1/100"), false, api.OK}, {place("500", "500"), false, api.OK},
		{place("x", large()), false, api.ErrForm}, {place("1", large()), false, api.ErrLarge},
	} {
		want(t, "Free", both(table.Free(example(), exampleBalls(), row.p)), row.free, row.e)
	}
	want(t, "Free without balls", both(table.Free(example(), nil, place("500", "500"))), true, api.OK)
}

func TestSpotted(t *testing.T) {
	near := changed(func(t *table.Table) {
		t.Spots = []table.Spot{spot("end", "1990", "500"), spot("mid", "1940", "500"), spot("small", "1/"+nines(600), "500")}
	})
	one := func(x api.Rat) []table.Ball { return []table.Ball{ball("a", x, "500")} }
	for _, row := range []struct {
		on    table.Table
		balls []table.Ball
		spot  string
		step  api.Place
		p     api.Place
		e     api.Errno
	}{
		{example(), exampleBalls(), "foot", place("10", "0"), place("1620", "500"), api.OK}, {example(), exampleBalls(), "foot", place("-10", "0"), place("1440", "500"), api.OK},
		{example(), exampleBalls(), "foot", place("0", "7"), place("1500", "563"), api.OK}, {example(), exampleBalls(), "foot", place("36/5", "48/5"), place("7716/5", "2788/5"), api.OK},
		{example(), nil, "foot", place("10", "0"), place("1500", "500"), api.OK}, {example(), exampleBalls(), "head", place("1000", "0"), place("", ""), api.ErrNone},
		{example(), nil, "foot", place("5000", "0"), place("1500", "500"), api.OK},
		// A place on an edge is not outside.
		{near, one("1940"), "mid", place("60", "0"), place("2000", "500"), api.OK}, {near, one("1940"), "mid", place("30", "0"), place("2000", "500"), api.OK},
		{near, one("1940"), "mid", place("59", "0"), place("", ""), api.ErrNone}, {near, one("1990"), "end", place("20", "0"), place("", ""), api.ErrNone},
		{near, one("1990"), "end", place("5000", "0"), place("", ""), api.ErrNone},
		// The place after 199 steps is the last one that counts.
		{near, one("1940"), "mid", place("60/199", "0"), place("2000", "500"), api.OK}, {near, one("1940"), "mid", place("3/10", "0"), place("", ""), api.ErrLimit},
		{near, one("1990"), "end", place("2001/39800", "0"), place("", ""), api.ErrNone}, {near, one("1990"), "end", place("2001/40000", "0"), place("", ""), api.ErrLimit},
		{near, one("1990"), "end", place("0", "1/100"), place("", ""), api.ErrLimit},
		{near, one("0"), "small", place("60", "0"), place("", ""), api.ErrLarge}, {near, one("1990"), "end", place("-60", "1/"+nines(600)), place("", ""), api.ErrLarge},
		{near, nil, "small", place("60", "0"), place("1/"+nines(600), "500"), api.OK},
		{example(), exampleBalls(), "feet", place("x", "0"), place("", ""), api.ErrUnknown}, {example(), exampleBalls(), "", place("0", "0"), place("", ""), api.ErrUnknown},
		{example(), nil, "a", place("1", "0"), place("", ""), api.ErrUnknown}, {example(), exampleBalls(), "foot", place("x", large()), place("", ""), api.ErrForm},
		{example(), exampleBalls(), "foot", place("0", large()), place("", ""), api.ErrLarge}, {example(), nil, "foot", place("0", "0"), place("", ""), api.ErrZero},
		{example(), nil, "foot", place("0", "-0"), place("", ""), api.ErrForm},
	} {
		want(t, "Spotted", both(table.Spotted(row.on, row.balls, row.spot, row.step)), row.p, row.e)
	}
}

// nearest is a pair of balls with the square of its distance.
type nearest struct {
	balls  [2]int
	square api.Rat
}

func nearestOf(t table.Table, l []table.Ball) pair[nearest] {
	balls, square, e := table.Nearest(t, l)
	return both(nearest{balls, square}, e)
}

func TestNearest(t *testing.T) {
	far := ball("far", "1900", "1/"+nines(600))
	for _, row := range []struct {
		balls []table.Ball
		n     nearest
		e     api.Errno
	}{
		{exampleBalls(), nearest{[2]int{1, 2}, "3600"}, api.OK}, {nil, nearest{}, api.ErrNone}, {exampleBalls()[:1], nearest{}, api.ErrNone},
		{exampleBalls()[:2], nearest{[2]int{0, 1}, "1000000"}, api.OK},
		// Of several pairs the lexicographically first one: 0 and 3 come before 1 and 2.
		{[]table.Ball{ball("a", "0", "0"), ball("b", "500", "0"), ball("c", "500", "70"), ball("d", "0", "70")}, nearest{[2]int{0, 3}, "4900"}, api.OK},
		{[]table.Ball{ball("a", "0", "0"), ball("b", "0", "70"), ball("c", "0", "140")}, nearest{[2]int{0, 1}, "4900"}, api.OK},
		{[]table.Ball{ball("a", "0", "0"), ball("b", "1000", "0"), ball("c", "1000", "70"), ball("d", "0", "141/2")}, nearest{[2]int{1, 2}, "4900"}, api.OK},
		{[]table.Ball{ball("a", "0", "1/3"), ball("b", "1000", "0"), ball("c", "200/3", "1/7")}, nearest{[2]int{0, 2}, "1960016/441"}, api.OK},
		// Only the distance that is returned can be too large.
		{[]table.Ball{far, ball("b", "0", "0"), ball("c", "100", "0")}, nearest{[2]int{1, 2}, "10000"}, api.OK}, {[]table.Ball{far, ball("b", "1800", "0"), ball("c", "0", "0")}, nearest{}, api.ErrLarge},
		{[]table.Ball{ball("a", "0", "0"), ball("b", "1", "0")}, nearest{}, api.ErrOverlap},
	} {
		want(t, "Nearest", nearestOf(example(), row.balls), row.n, row.e)
	}
}

func TestTouching(t *testing.T) {
	for _, row := range []struct {
		balls []table.Ball
		pairs [][2]int
		e     api.Errno
	}{
		{exampleBalls(), [][2]int{{1, 2}}, api.OK}, {nil, nil, api.OK}, {exampleBalls()[:2], nil, api.OK},
		{[]table.Ball{ball("a", "100", "100"), ball("b", "136", "148"), ball("c", "100", "40"), ball("d", "40", "100"), ball("e", "136", "208")}, [][2]int{{0, 1}, {0, 2}, {0, 3}, {1, 4}}, api.OK},
		{[]table.Ball{ball("a", "0", "0"), ball("b", "60", "60"), ball("c", "60", "0"), ball("d", "0", "60")}, [][2]int{{0, 2}, {0, 3}, {1, 2}, {1, 3}}, api.OK},
		{[]table.Ball{ball("a", "0", "0"), ball("b", "60000001/1000000", "0")}, nil, api.OK}, {[]table.Ball{ball("a", "0", "0"), ball("b", "288/5", "84/5")}, [][2]int{{0, 1}}, api.OK},
		{[]table.Ball{ball("a", "0", "1/"+nines(600)), ball("b", "60", "1/"+nines(600))}, [][2]int{{0, 1}}, api.OK},
		{[]table.Ball{ball("a", "0", "0"), ball("b", "1", "0")}, nil, api.ErrOverlap},
	} {
		wantList(t, "Touching", both(table.Touching(example(), row.balls)), row.pairs, row.e)
	}
}

func TestErrorsOfLayouts(t *testing.T) {
	bad := []pair[[]table.Ball]{both([]table.Ball{ball("", "", "")}, api.ErrName), both([]table.Ball{ball("a", "1", "1"), ball("b", "1", "1")}, api.ErrOverlap)}
	for _, broken := range brokenTables() {
		bad = append(bad, both([]table.Ball(nil), broken.err))
	}
	for i, row := range bad {
		on := example()
		if i >= 2 {
			on = brokenTables()[i-2].value
		}
		want(t, "Free", both(table.Free(on, row.value, api.Place{})), false, row.err)
		want(t, "Spotted", both(table.Spotted(on, row.value, "", api.Place{})), api.Place{}, row.err)
		want(t, "Nearest", nearestOf(on, row.value), nearest{}, row.err)
		wantList(t, "Touching", both(table.Touching(on, row.value)), nil, row.err)
	}
}

// What is found in layouts, against all distances.
func TestLayoutsAgainstLibrary(t *testing.T) {
	r := rand.New(rand.NewSource(32))
	for range 300 {
		on := someTable(t, r)
		balls := someBalls(t, r, on)
		var pairs [][2]int
		first := nearest{}
		for i := range balls {
			for j := i + 1; j < len(balls); j++ {
				square := squareBetween(t, balls[i].At, balls[j].At)
				if square.Cmp(reach(on.Radius)) == 0 {
					pairs = append(pairs, [2]int{i, j})
				}
				if first.square == "" || square.Cmp(value(t, first.square)) < 0 {
					first = nearest{[2]int{i, j}, text(square)}
				}
			}
		}
		wantList(t, "Touching", both(table.Touching(on, balls)), pairs, api.OK)
		if len(balls) >= 2 {
			want(t, "Nearest", nearestOf(on, balls), first, api.OK)
		}
		p := someInside(t, r, on.Corners)
		overlapped := slices.ContainsFunc(balls, func(b table.Ball) bool {
			return squareBetween(t, b.At, p).Cmp(reach(on.Radius)) < 0
		})
		want(t, "Free", both(table.Free(on, balls, p)), !overlapped, api.OK)
		e := api.OK
		if overlapped {
			e = api.ErrOverlap
		}
		wantError(t, "CheckLayout", table.CheckLayout(on, append(balls, table.Ball{Name: "more", At: p})), e)
	}
}
