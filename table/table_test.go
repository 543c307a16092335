package table_test

import (
	"math"
	"math/big"
	"math/rand"
	"slices"
	"testing"

	"baulk/api"
	"baulk/table"
)

// Tests of P2.1 (tables).

func TestOutlines(t *testing.T) {
	circle := points(-10000, 0, -5000, -8000, 0, -10000, 5000, -8000, 10000, 0, 5000, 8000, 0, 10000, -5000, 8000)
	twelve := points(0, 0, 10, -6, 20, -10, 30, -12, 40, -10, 50, -6, 60, 0, 50, 6, 40, 10, 30, 12, 20, 10, 10, 6)
	for _, row := range []struct {
		corners []api.Point
		radius  int
		e       api.Errno
	}{
		{points(0, 0, 1, 0, 0, 1), 1, api.OK}, {points(0, 0, 1, 0, 0, 1), 1000, api.OK}, {circle, 30, api.OK}, {twelve, 30, api.OK},
		{points(-10000, -10000, 10000, -10000, 10000, 10000, -10000, 10000), 30, api.OK},
		// Too few and too many come before everything else, then the range, the form, the radius.
		{nil, 0, api.ErrShape}, {points(0, 0, 20000, 0), 0, api.ErrShape}, {append(slices.Clone(twelve), api.Point{X: 5, Y: 20000}), 0, api.ErrMany},
		{append(slices.Clone(twelve), api.Point{X: 5, Y: 4}), 30, api.ErrMany}, {make([]api.Point, 100000), 0, api.ErrMany},
		{points(0, 0, 10001, 0, 0, 1), 30, api.ErrRange}, {points(0, 0, 1, 0, 0, 10001), 30, api.ErrRange}, {points(0, 0, 0, 1, -10001, 0), 30, api.ErrRange},
		{points(0, 0, 0, -10001, 1, 0), 30, api.ErrRange}, {points(0, 0, 0, 1, 10001, 0), 0, api.ErrRange}, {points(math.MinInt, 0, math.MaxInt, 0, 0, math.MaxInt), 0, api.ErrRange},
		{points(0, 0, 0, 1, 1, 0), 30, api.ErrConvex}, {points(0, 0, 0, 1, 1, 0), 0, api.ErrConvex}, {points(0, 0, 1, 0, 2, 0), 30, api.ErrConvex},
		{points(0, 0, 1, 0, 2, 0, 0, 2), 30, api.ErrConvex}, {points(0, 0, 2, 0, 1, 0, 0, 2), 30, api.ErrConvex}, {points(0, 0, 2, 0, 0, 2, 0, 1), 30, api.ErrConvex},
		{points(0, 0, 4, 0, 1, 1, 0, 4), 30, api.ErrConvex}, {points(0, 0, 2000, 1000, 2000, 0, 0, 1000), 30, api.ErrConvex},
		{points(0, 0, 0, 0, 0, 0), 30, api.ErrConvex}, {points(0, 0, 1, 0, 1, 0, 0, 1), 30, api.ErrConvex}, {points(0, 0, 1, 0, 0, 1, 0, 0), 30, api.ErrConvex},
		{points(0, 0, 1, 0, 0, 1, 0, 0, 1, 0, 0, 1), 30, api.ErrConvex},
		// A star and a way twice round turn to the left at each corner.
		{points(0, 10, -6, -8, 10, 3, -10, 3, 6, -8), 30, api.ErrConvex}, {append(slices.Clone(circle), circle[0]), 30, api.ErrConvex},
		{points(0, 0, 1, 0, 0, 1), 0, api.ErrRange}, {points(0, 0, 1, 0, 0, 1), 1001, api.ErrRange}, {points(0, 0, 1, 0, 0, 1), -30, api.ErrRange},
	} {
		wantError(t, "CheckTable", table.CheckTable(table.Table{Corners: row.corners, Radius: row.radius}), row.e)
	}
	broken := table.Table{Corners: points(0, 0, 1, 0, 0, 1), Pockets: make([]table.Pocket, 13), Spots: make([]table.Spot, 257)}
	wantError(t, "CheckTable", table.CheckTable(broken), api.ErrRange)
}

// Corners in each order: only the turns of one of them are those of a convex polygon.
func TestOrdersOfCorners(t *testing.T) {
	r := rand.New(rand.NewSource(31))
	for range 300 {
		corners := someCorners(r)
		n := len(corners)
		wantError(t, "CheckTable", table.CheckTable(table.Table{Corners: corners, Radius: 1}), api.OK)
		other := slices.Clone(corners)
		i, j := r.Intn(n), r.Intn(n-1)
		if j >= i {
			j++
		}
		other[i], other[j] = other[j], other[i]
		wantError(t, "CheckTable with two corners exchanged", table.CheckTable(table.Table{Corners: other, Radius: 1}), api.ErrConvex)
		other = slices.Clone(corners)
		slices.Reverse(other)
		wantError(t, "CheckTable the other way round", table.CheckTable(table.Table{Corners: other, Radius: 1}), api.ErrConvex)
	}
}

func TestPockets(t *testing.T) {
	for _, row := range []struct {
		pockets []table.Pocket
		e       api.Errno
	}{
		{nil, api.OK}, {[]table.Pocket{pocket("a", 0, "0", "1")}, api.OK}, {[]table.Pocket{pocket("a", 3, "1/2", "1/2"), pocket("b", 3, "1", "1"), pocket("c", 3, "0", "0")}, api.OK},
		// Two pockets with one corner in common are on different edges.
		{[]table.Pocket{pocket("a", 0, "19/20", "1"), pocket("b", 1, "0", "1/20"), pocket("c", 3, "1", "1"), pocket("d", 0, "0", "0")}, api.OK},
		{[]table.Pocket{pocket("a", 0, "0", "1/2"), pocket("b", 1, "0", "1/2")}, api.OK},
		{[]table.Pocket{pocket("1", 9, "", "")}, api.ErrName}, {[]table.Pocket{pocket("", 0, "0", "1")}, api.ErrName},
		{[]table.Pocket{pocket("a", 0, "0", "1/2"), pocket("a", 9, "", "")}, api.ErrTwice}, {[]table.Pocket{pocket("a", 0, "0", "0"), pocket("b", 1, "0", "0"), pocket("a", 2, "0", "0")}, api.ErrTwice},
		{[]table.Pocket{pocket("a", 4, "x", "")}, api.ErrUnknown}, {[]table.Pocket{pocket("a", -1, "x", "")}, api.ErrUnknown}, {[]table.Pocket{pocket("a", math.MaxInt, "0", "1")}, api.ErrUnknown},
		{[]table.Pocket{pocket("a", 0, "2/4", large())}, api.ErrForm}, {[]table.Pocket{pocket("a", 0, large(), "x")}, api.ErrLarge}, {[]table.Pocket{pocket("a", 0, "2", "x")}, api.ErrForm},
		{[]table.Pocket{pocket("a", 0, "2", large())}, api.ErrLarge}, {[]table.Pocket{pocket("a", 0, "-1/100", "1/2")}, api.ErrRange}, {[]table.Pocket{pocket("a", 0, "2", "1")}, api.ErrRange},
		{[]table.Pocket{pocket("a", 0, "1/2", "101/100")}, api.ErrRange}, {[]table.Pocket{pocket("a", 0, "1/2", "-1")}, api.ErrRange},
		{[]table.Pocket{pocket("a", 0, "0", "1"), pocket("b", 0, "2/3", "1/2")}, api.ErrOrder}, {[]table.Pocket{pocket("a", 0, "1", "0")}, api.ErrOrder},
		{[]table.Pocket{pocket("a", 0, "0", "1/2"), pocket("b", 0, "1/2", "1")}, api.ErrOverlap}, {[]table.Pocket{pocket("a", 0, "1/2", "1"), pocket("b", 0, "0", "1/2")}, api.ErrOverlap},
		{[]table.Pocket{pocket("a", 0, "1/4", "3/4"), pocket("b", 0, "1/3", "1/2")}, api.ErrOverlap}, {[]table.Pocket{pocket("a", 0, "1/3", "1/2"), pocket("b", 0, "1/4", "3/4")}, api.ErrOverlap},
		{[]table.Pocket{pocket("a", 0, "0", "0"), pocket("b", 1, "0", "0"), pocket("c", 0, "0", "0")}, api.ErrOverlap},
		{[]table.Pocket{pocket("a", 0, "0", "1/2"), pocket("b", 0, "2/3", "1")}, api.OK}, {[]table.Pocket{pocket("a", 0, "2/3", "1"), pocket("b", 0, "0", "1/2")}, api.OK},
		// The first pocket with an error counts.
		{[]table.Pocket{pocket("a", 0, "1", "0"), pocket("", 9, "", "")}, api.ErrOrder}, {[]table.Pocket{pocket("a", 0, "1", "1"), pocket("b", 0, "1", "1"), pocket("", 9, "", "")}, api.ErrOverlap},
	} {
		wantError(t, "CheckTable with pockets", table.CheckTable(withPockets(row.pockets...)), row.e)
	}
	var many []table.Pocket
	for i := range 13 {
		many = append(many, pocket("p"+string(rune('a'+i)), i%4, text(big.NewRat(int64(i), 13)), text(big.NewRat(int64(i), 13))))
	}
	wantError(t, "CheckTable with 12 pockets", table.CheckTable(withPockets(many[:12]...)), api.OK)
	wantError(t, "CheckTable with 13 pockets", table.CheckTable(withPockets(many...)), api.ErrMany)
	wantError(t, "CheckTable with 13 bad pockets", table.CheckTable(withPockets(make([]table.Pocket, 13)...)), api.ErrMany)
}

func TestSpots(t *testing.T) {
	for _, row := range []struct {
		spots []table.Spot
		e     api.Errno
	}{
		{nil, api.OK}, {[]table.Spot{spot("a", "0", "0"), spot("b", "0", "0"), spot("c", "2000", "1/3")}, api.OK}, {[]table.Spot{spot("a_1", "1/3", "1/7")}, api.OK},
		{[]table.Spot{spot("_", "", "")}, api.ErrName}, {[]table.Spot{spot("a", "0", "0"), spot("b", "1", "1"), spot("a", "", "")}, api.ErrTwice},
		{[]table.Spot{spot("c", "x", large())}, api.ErrForm}, {[]table.Spot{spot("c", large(), "x")}, api.ErrLarge}, {[]table.Spot{spot("c", "-1", "x")}, api.ErrForm},
		{[]table.Spot{spot("c", "-1/"+nines(600), "0")}, api.ErrOutside}, {[]table.Spot{spot("c", "2001", "500")}, api.ErrOutside}, {[]table.Spot{spot("c", "500", "-1")}, api.ErrOutside},
		{[]table.Spot{spot("c", "500", "1001")}, api.ErrOutside}, {[]table.Spot{spot("c", "-1", "0"), spot("", "", "")}, api.ErrOutside},
		{[]table.Spot{spot("", "-1", "0"), spot("c", "-1", "0")}, api.ErrName},
	} {
		wantError(t, "CheckTable with spots", table.CheckTable(withSpots(row.spots...)), row.e)
	}
	wantError(t, "CheckTable with the name of a pocket", table.CheckTable(withSpots(spot("a", "0", "0"))), api.OK)
	var many []table.Spot
	for i := range 257 {
		many = append(many, spot("s"+string(rune('a'+i%26))+string(rune('a'+i/26)), "1", "1"))
	}
	wantError(t, "CheckTable with 256 spots", table.CheckTable(withSpots(many[:256]...)), api.OK)
	wantError(t, "CheckTable with 257 spots", table.CheckTable(withSpots(many...)), api.ErrMany)
	wantError(t, "CheckTable with 257 bad spots", table.CheckTable(withSpots(make([]table.Spot, 257)...)), api.ErrMany)
	wrong := changed(func(t *table.Table) { t.Pockets[1].From, t.Spots = "2", make([]table.Spot, 257) })
	wantError(t, "CheckTable with bad pockets and spots", table.CheckTable(wrong), api.ErrRange)
}

func TestArea(t *testing.T) {
	want(t, "Area", both(table.Area(example())), "2000000", api.OK)
	want(t, "Area of a triangle", both(table.Area(withCorners(0, 0, 1, 0, 0, 1))), "1/2", api.OK)
	want(t, "Area of another triangle", both(table.Area(withCorners(-3, -2, 4, -1, -1, 5))), "47/2", api.OK)
	want(t, "Area of the greatest table", both(table.Area(withCorners(-10000, -10000, 10000, -10000, 10000, 10000, -10000, 10000))), "400000000", api.OK)
	for _, broken := range brokenTables() {
		want(t, "Area", both(table.Area(broken.value)), "", broken.err)
	}
}

func TestOn(t *testing.T) {
	for _, row := range []struct {
		p api.Place
		n int
		e api.Errno
	}{
		{place("500", "500"), 1, api.OK}, {place("1/"+nines(600), "1/"+nines(600)), 1, api.OK}, {place("0", "0"), 0, api.OK}, {place("2000", "1000"), 0, api.OK},
		{place("1/3", "0"), 0, api.OK}, {place("2000", "1/3"), 0, api.OK}, {place("-1/"+nines(600), "1"), -1, api.OK}, {place("2001", "0"), -1, api.OK}, {place("3000", "3000"), -1, api.OK},
		{place("500", "-1/2"), -1, api.OK}, {place(nines(600), "0"), -1, api.OK},
		{place("", large()), 0, api.ErrForm}, {place(large(), ""), 0, api.ErrLarge}, {place("1", "1/1"), 0, api.ErrForm}, {place("-5", large()), 0, api.ErrLarge},
	} {
		want(t, "On", both(table.On(example(), row.p)), row.n, row.e)
	}
	for _, broken := range brokenTables() {
		want(t, "On", both(table.On(broken.value, place("", ""))), 0, broken.err)
	}
}

func TestAt(t *testing.T) {
	for _, row := range []struct {
		edge  int
		share api.Rat
		p     api.Place
		e     api.Errno
	}{
		{0, "1/4", place("500", "0"), api.OK}, {1, "1/4", place("2000", "250"), api.OK}, {2, "1/3", place("4000/3", "1000"), api.OK}, {3, "1/7", place("0", "6000/7"), api.OK},
		{0, "0", place("0", "0"), api.OK}, {0, "1", place("2000", "0"), api.OK}, {3, "1", place("0", "0"), api.OK},
		{0, "1/" + nines(600), place("2000/"+nines(600), "0"), api.OK}, {3, "1/" + nines(600), place("", ""), api.ErrLarge},
		{0, "1/" + ten(599), place("1/5"+ten(595)[1:], "0"), api.OK}, {2, "1/" + nines(600), place("", ""), api.ErrLarge},
		{4, "x", place("", ""), api.ErrUnknown}, {-1, "2", place("", ""), api.ErrUnknown}, {0, "x", place("", ""), api.ErrForm}, {0, large(), place("", ""), api.ErrLarge},
		{0, "-1/2", place("", ""), api.ErrRange}, {0, "3/2", place("", ""), api.ErrRange},
	} {
		want(t, "At", both(table.At(example(), row.edge, row.share)), row.p, row.e)
	}
	for _, broken := range brokenTables() {
		want(t, "At", both(table.At(broken.value, 9, "")), api.Place{}, broken.err)
	}
}

// found is an edge with a share.
type found struct {
	edge  int
	share api.Rat
}

func edgeOf(t table.Table, p api.Place) pair[found] {
	edge, share, e := table.Edge(t, p)
	return both(found{edge, share}, e)
}

func TestEdge(t *testing.T) {
	slanted := withCorners(0, 0, 30, 10, 20, 40, -10, 30)
	for _, row := range []struct {
		on table.Table
		p  api.Place
		f  found
		e  api.Errno
	}{
		{example(), place("2000", "250"), found{1, "1/4"}, api.OK}, {example(), place("2000", "0"), found{0, "1"}, api.OK}, {example(), place("0", "0"), found{0, "0"}, api.OK},
		{example(), place("2000", "1000"), found{1, "1"}, api.OK}, {example(), place("0", "1000"), found{2, "1"}, api.OK}, {example(), place("0", "1/3"), found{3, "2999/3000"}, api.OK},
		{example(), place("500", "500"), found{}, api.ErrNone}, {example(), place("2001", "0"), found{}, api.ErrNone}, {example(), place("-1", "0"), found{}, api.ErrNone},
		{example(), place("1/"+nines(600), "0"), found{}, api.ErrLarge}, {example(), place("1/"+nines(596), "0"), found{0, "1/1" + nines(595) + "8000"}, api.OK},
		{example(), place("x", "0"), found{}, api.ErrForm}, {example(), place("0", large()), found{}, api.ErrLarge},
		{slanted, place("15", "5"), found{0, "1/2"}, api.OK}, {slanted, place("80/3", "20"), found{1, "1/3"}, api.OK}, {slanted, place("0", "100/3"), found{2, "2/3"}, api.OK},
		{slanted, place("-1", "3"), found{3, "9/10"}, api.OK}, {slanted, place("-3", "-1"), found{}, api.ErrNone}, {slanted, place("33", "11"), found{}, api.ErrNone},
	} {
		want(t, "Edge", edgeOf(row.on, row.p), row.f, row.e)
	}
	for _, broken := range brokenTables() {
		want(t, "Edge", edgeOf(broken.value, place("", "")), found{}, broken.err)
	}
}

func TestPocketed(t *testing.T) {
	corners := withPockets(pocket("a", 0, "19/20", "1"), pocket("b", 1, "0", "1/20"), pocket("c", 3, "1/2", "1"), pocket("d", 2, "0", "1/20"), pocket("e", 3, "1/3", "1/3"))
	point := withPockets(pocket("a", 2, "1", "1"), pocket("b", 0, "0", "0"))
	for _, row := range []struct {
		on    table.Table
		edge  int
		share api.Rat
		name  string
		e     api.Errno
	}{
		{example(), 0, "0", "a", api.OK}, {example(), 0, "1/40", "a", api.OK}, {example(), 0, "1/20", "a", api.OK}, {example(), 0, "1/10", "", api.ErrNone},
		{example(), 3, "1", "a", api.OK}, {example(), 3, "0", "b", api.OK}, {example(), 2, "1", "b", api.OK}, {example(), 2, "0", "", api.ErrNone}, {example(), 1, "1", "", api.ErrNone},
		{example(), 3, "1/40", "", api.ErrNone}, {example(), 0, "1", "", api.ErrNone}, {example(), 0, "50000001/1000000000", "", api.ErrNone},
		// Of two pockets with a corner in common the first one in the list counts, from both edges.
		{corners, 0, "1", "a", api.OK}, {corners, 1, "0", "a", api.OK}, {corners, 1, "1/20", "b", api.OK}, {corners, 1, "1", "d", api.OK}, {corners, 2, "0", "d", api.OK},
		{corners, 0, "0", "c", api.OK}, {corners, 3, "1", "c", api.OK}, {corners, 3, "1/3", "e", api.OK}, {corners, 3, "1/4", "", api.ErrNone}, {corners, 2, "1", "", api.ErrNone},
		{corners, 3, "0", "", api.ErrNone}, {point, 2, "1", "a", api.OK}, {point, 3, "0", "a", api.OK}, {point, 3, "1", "b", api.OK}, {point, 0, "0", "b", api.OK}, {point, 0, "1", "", api.ErrNone},
		{point, 2, "0", "", api.ErrNone}, {point, 3, "1/2", "", api.ErrNone},
		{example(), 4, "x", "", api.ErrUnknown}, {example(), -1, "0", "", api.ErrUnknown}, {example(), 0, "2/4", "", api.ErrForm}, {example(), 0, large(), "", api.ErrLarge},
		{example(), 0, "-1/20", "", api.ErrRange}, {example(), 0, "21/20", "", api.ErrRange},
	} {
		want(t, "Pocketed", both(table.Pocketed(row.on, row.edge, row.share)), row.name, row.e)
	}
	for _, broken := range brokenTables() {
		want(t, "Pocketed", both(table.Pocketed(broken.value, 9, "")), "", broken.err)
	}
}
