package outline

import (
	"testing"

	"baulk/api"
	"baulk/exact"
	"baulk/plane"
)

// at returns a place, share a share of halves.
func at(t *testing.T, x, y api.Rat) plane.Place {
	t.Helper()
	p, e := plane.Read(api.Place{X: x, Y: y})
	if e != api.OK {
		t.Fatalf("%s %s: the error %d", x, y, e)
	}
	return p
}

func halves(n int) exact.Fraction { return exact.NewFraction(exact.NewInt(n), exact.NewInt(2)) }

// gap returns a gap from one number of halves to another one.
func gap(edge, from, to int) Gap {
	return Gap{Edge: edge, From: halves(from).Ratio(), To: halves(to).Ratio()}
}

// triangle returns an outline with some gaps.
func triangle(gaps ...Gap) Outline {
	return Outline{Corners: []api.Point{{X: 1, Y: 1}, {X: 5, Y: 1}, {X: 1, Y: 5}}, Gaps: gaps}
}

func TestEdges(t *testing.T) {
	o := triangle()
	wanted := []Edge{{From: o.Corners[0], To: o.Corners[1]}, {From: o.Corners[1], To: o.Corners[2]}, {From: o.Corners[2], To: o.Corners[0]}}
	count := 0
	for i, e := range o.Edges() {
		if i != count || e != wanted[i] || o.Edge(i) != e || !o.HasEdge(i) {
			t.Errorf("the edge %d is %v", i, e)
		}
		count++
	}
	for range o.Edges() {
		count++
		break
	}
	if count != 4 || o.HasEdge(3) || o.HasEdge(-1) {
		t.Errorf("%d edges", count)
	}
}

func TestPositions(t *testing.T) {
	for _, row := range []struct {
		x, y     api.Rat
		position int
	}{{"2", "2", 1}, {"3", "3", 0}, {"5", "1", 0}, {"1", "2", 0}, {"3", "4", -1}, {"0", "2", -1}, {"6", "1", -1}} {
		if got := triangle().Position(at(t, row.x, row.y)); got != row.position {
			t.Errorf("the position of %s %s: got %d", row.x, row.y, got)
		}
	}
}

func TestGaps(t *testing.T) {
	for _, row := range []struct {
		gaps   []Gap
		edge   int
		halves int
		number int
	}{
		{nil, 0, 0, -1}, {[]Gap{gap(0, 0, 2)}, 0, 1, 0}, {[]Gap{gap(0, 0, 1)}, 0, 0, 0}, {[]Gap{gap(0, 0, 1)}, 0, 1, 0}, {[]Gap{gap(0, 0, 1)}, 0, 2, -1}, {[]Gap{gap(0, 1, 1)}, 0, 1, 0}, {[]Gap{gap(0, 1, 1)}, 0, 0, -1}, {[]Gap{gap(0, 1, 1)}, 1, 1, -1}, {[]Gap{gap(1, 0, 2), gap(0, 0, 1)}, 0, 1, 1},
		// A corner is the beginning of an edge and the end of the one before.
		{[]Gap{gap(0, 1, 2)}, 1, 0, 0}, {[]Gap{gap(0, 0, 1)}, 1, 0, -1}, {[]Gap{gap(1, 0, 0)}, 0, 2, 0}, {[]Gap{gap(1, 1, 2)}, 0, 2, -1}, {[]Gap{gap(2, 2, 2)}, 0, 0, 0}, {[]Gap{gap(0, 0, 0)}, 2, 2, 0},
		{[]Gap{gap(2, 2, 2), gap(0, 0, 0)}, 0, 0, 0}, {[]Gap{gap(1, 2, 2), gap(2, 0, 1)}, 2, 0, 0}, {[]Gap{gap(2, 2, 2)}, 1, 0, -1},
	} {
		if got := triangle(row.gaps...).GapAt(row.edge, halves(row.halves).Ratio()); got != row.number {
			t.Errorf("GapAt %d halves of the edge %d with %v: got %d, want %d", row.halves, row.edge, row.gaps, got, row.number)
		}
	}
	for _, row := range []struct {
		a, b Gap
		ok   bool
	}{{gap(0, 0, 1), gap(0, 1, 2), true}, {gap(0, 1, 2), gap(0, 0, 1), true}, {gap(0, 0, 0), gap(0, 1, 2), false}, {gap(0, 1, 2), gap(0, 0, 0), false}, {gap(0, 0, 2), gap(0, 1, 1), true}, {gap(0, 0, 1), gap(1, 0, 1), false}} {
		if row.a.Overlaps(row.b) != row.ok {
			t.Errorf("%v and %v: got %v", row.a, row.b, !row.ok)
		}
	}
}

// above is a share that is a little above a fraction, and so is not one of those that gaps have as their ends.
type above struct{ fraction exact.Ratio }

func (a above) Order(b exact.Ratio) int {
	if a.fraction.Order(b) < 0 {
		return -1
	}
	return 1
}

func TestSharesThatAreNoFractions(t *testing.T) {
	for _, row := range []struct {
		gap    Gap
		edge   int
		halves int
		number int
	}{{gap(0, 0, 1), 0, 0, 0}, {gap(0, 0, 1), 0, 1, -1}, {gap(0, 1, 2), 0, 0, -1}, {gap(0, 1, 2), 0, 1, 0}, {gap(0, 0, 0), 0, 0, -1}, {gap(2, 2, 2), 0, 0, -1}, {gap(1, 0, 1), 0, 1, -1}} {
		if got := triangle(row.gap).GapAt(row.edge, above{halves(row.halves).Ratio()}); got != row.number {
			t.Errorf("GapAt above %d halves of the edge %d with %v: got %d, want %d", row.halves, row.edge, row.gap, got, row.number)
		}
	}
}

func TestLines(t *testing.T) {
	e := triangle().Edge(1)
	if e.Side(at(t, "2", "2")) != 1 || e.Side(at(t, "6", "0")) != 0 || e.Side(at(t, "4", "4")) != -1 {
		t.Error("Side is wrong")
	}
	if e.Turn(at(t, "-1", "0")) != 1 || e.Turn(at(t, "-1", "1")) != 0 || e.Turn(at(t, "1", "0")) != -1 {
		t.Error("Turn is wrong")
	}
	if e.Share(at(t, "4", "2")).Order(exact.NewFraction(exact.NewInt(1), exact.NewInt(4)).Ratio()) != 0 {
		t.Error("Share is wrong")
	}
	for what, row := range map[string]struct {
		got  plane.Place
		x, y api.Rat
	}{
		"Place": {e.Place(halves(1)), "3", "3"}, "Crossing": {e.Crossing(at(t, "2", "2"), at(t, "2", "6")), "2", "4"}, "Image": {e.Image(at(t, "2", "3")), "3", "4"}, "Turned": {e.Turned(at(t, "1", "2")), "-2", "-1"},
	} {
		if got, _ := row.got.Write(); got != (api.Place{X: row.x, Y: row.y}) {
			t.Errorf("%s: got %v, want %s %s", what, got, row.x, row.y)
		}
	}
}
