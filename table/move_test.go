package table_test

import (
	"math"
	"slices"
	"testing"

	"baulk/api"
	"baulk/table"
)

// Tests of P2.3 (moves).

// move returns a move.
func move(mirror bool, quarters, x, y int) table.Move {
	return table.Move{Mirror: mirror, Quarters: quarters, By: api.Point{X: x, Y: y}}
}

// lopsided returns a table that no turn and no mirror leads to itself.
func lopsided() table.Table {
	return table.Table{
		Corners: points(0, 0, 40, 0, 50, 30, 10, 20),
		Radius:  2,
		Pockets: []table.Pocket{pocket("b", 2, "1/3", "2/5"), pocket("a", 0, "0", "1/20"), pocket("c", 0, "1/2", "1/2")},
		Spots:   []table.Spot{spot("s", "20", "5/2"), spot("a", "1/3", "1/7")},
	}
}

func TestChanged(t *testing.T) {
	pockets := lopsided().Pockets
	mirrored := []table.Pocket{pocket("b", 1, "3/5", "2/3"), pocket("a", 3, "19/20", "1"), pocket("c", 3, "1/2", "1/2")}
	for _, row := range []struct {
		m       table.Move
		corners []api.Point
		pockets []table.Pocket
		spots   [2]api.Place
	}{
		{move(false, 0, 0, 0), points(0, 0, 40, 0, 50, 30, 10, 20), pockets, [2]api.Place{place("20", "5/2"), place("1/3", "1/7")}},
		{move(false, 1, 0, 0), points(0, 0, 0, 40, -30, 50, -20, 10), pockets, [2]api.Place{place("-5/2", "20"), place("-1/7", "1/3")}},
		{move(false, 2, 0, 0), points(0, 0, -40, 0, -50, -30, -10, -20), pockets, [2]api.Place{place("-20", "-5/2"), place("-1/3", "-1/7")}},
		{move(false, 3, 0, 0), points(0, 0, 0, -40, 30, -50, 20, -10), pockets, [2]api.Place{place("5/2", "-20"), place("1/7", "-1/3")}},
		{move(false, 0, 100, -200), points(100, -200, 140, -200, 150, -170, 110, -180), pockets, [2]api.Place{place("120", "-395/2"), place("301/3", "-1399/7")}},
		{move(true, 0, 0, 0), points(0, 0, -10, 20, -50, 30, -40, 0), mirrored, [2]api.Place{place("-20", "5/2"), place("-1/3", "1/7")}},
		{move(true, 1, 0, 0), points(0, 0, -20, -10, -30, -50, 0, -40), mirrored, [2]api.Place{place("-5/2", "-20"), place("-1/7", "-1/3")}},
		{move(true, 2, 0, 0), points(0, 0, 10, -20, 50, -30, 40, 0), mirrored, [2]api.Place{place("20", "-5/2"), place("1/3", "-1/7")}},
		{move(true, 3, 1, 2), points(1, 2, 21, 12, 31, 52, 1, 42), mirrored, [2]api.Place{place("7/2", "22"), place("8/7", "7/3")}},
		{move(false, -1, 5, 0), points(5, 0, 5, -40, 35, -50, 25, -10), pockets, [2]api.Place{place("15/2", "-20"), place("36/7", "-1/3")}},
		{move(false, 4, 0, 0), lopsided().Corners, pockets, [2]api.Place{place("20", "5/2"), place("1/3", "1/7")}},
		{move(false, -6, 0, 0), points(0, 0, -40, 0, -50, -30, -10, -20), pockets, [2]api.Place{place("-20", "-5/2"), place("-1/3", "-1/7")}},
		{move(false, math.MinInt, 0, 0), lopsided().Corners, pockets, [2]api.Place{place("20", "5/2"), place("1/3", "1/7")}},
		{move(false, math.MaxInt, 0, 0), points(0, 0, 0, -40, 30, -50, 20, -10), pockets, [2]api.Place{place("5/2", "-20"), place("1/7", "-1/3")}},
	} {
		spots := []table.Spot{{Name: "s", At: row.spots[0]}, {Name: "a", At: row.spots[1]}}
		want(t, "Changed", both(table.Changed(lopsided(), row.m)), table.Table{Corners: row.corners, Radius: 2, Pockets: row.pockets, Spots: spots}, api.OK)
		balls := []table.Ball{{Name: "s", At: row.spots[0]}, {Name: "a", At: row.spots[1]}}
		wantList(t, "Carried", both(table.Carried(lopsided(), []table.Ball{ball("s", "20", "5/2"), ball("a", "1/3", "1/7")}, row.m)), balls, api.OK)
	}
}

func TestChangedExample(t *testing.T) {
	wanted := table.Table{
		Corners: points(0, 0, 0, 1000, -2000, 1000, -2000, 0),
		Radius:  30,
		Pockets: []table.Pocket{pocket("a", 3, "19/20", "1"), pocket("b", 1, "0", "1/20")},
		Spots:   []table.Spot{spot("foot", "-1500", "500"), spot("head", "-500", "500")},
	}
	got := both(table.Changed(example(), move(true, 0, 0, 0)))
	want(t, "Changed", got, wanted, api.OK)
	normal := table.Table{
		Corners: points(-2000, 0, 0, 0, 0, 1000, -2000, 1000),
		Radius:  30,
		Pockets: []table.Pocket{pocket("a", 0, "19/20", "1"), pocket("b", 2, "0", "1/20")},
		Spots:   []table.Spot{spot("foot", "-1500", "500"), spot("head", "-500", "500")},
	}
	want(t, "Normal", both(table.Normal(got.value)), normal, api.OK)
	triangle := withCorners(0, 0, 9, 0, 0, 5)
	want(t, "Changed without lists", both(table.Changed(triangle, move(true, 0, 0, 0))).full(), full(withCorners(0, 0, 0, 5, -9, 0)), api.OK)
	wantList(t, "Carried without balls", both(table.Carried(triangle, nil, move(true, 0, 0, 0))), nil, api.OK)
}

func TestErrorsOfMoves(t *testing.T) {
	small := withSpots(spot("s", "1/"+nines(600), "5"))
	for _, row := range []struct {
		on           table.Table
		m            table.Move
		table, balls api.Errno
	}{
		{example(), move(false, 0, 8000, 9000), api.OK, api.OK}, {example(), move(false, 0, 8001, 0), api.ErrRange, api.ErrRange}, {example(), move(false, 0, 0, 9001), api.ErrRange, api.ErrRange},
		{example(), move(false, 0, -10000, -10000), api.OK, api.OK}, {example(), move(false, 0, -10001, 0), api.ErrRange, api.ErrRange}, {example(), move(false, 0, 0, -10001), api.ErrRange, api.ErrRange},
		{example(), move(true, 0, -8001, 0), api.ErrRange, api.ErrRange}, {example(), move(true, 0, 10000, 0), api.OK, api.OK}, {example(), move(false, 1, 0, 8001), api.ErrRange, api.ErrRange},
		{example(), move(false, 1, 10000, 8000), api.OK, api.OK}, {example(), move(false, 2, 10001, 0), api.ErrRange, api.ErrRange}, {example(), move(true, 0, 10001, 0), api.ErrRange, api.ErrRange},
		{example(), move(false, 0, math.MinInt, 0), api.ErrRange, api.ErrRange}, {example(), move(true, 3, 0, math.MaxInt), api.ErrRange, api.ErrRange},
		{example(), move(false, 0, math.MaxInt, math.MaxInt), api.ErrRange, api.ErrRange},
		// A spot that is too large after the move is no error of the balls.
		{small, move(false, 0, 1, 0), api.ErrLarge, api.OK}, {small, move(true, 1, 0, 0), api.OK, api.OK}, {small, move(false, 0, 0, 1), api.OK, api.OK}, {small, move(false, 1, 0, 1), api.ErrLarge, api.OK}, {small, move(false, 1, 0, -1), api.OK, api.OK},
		{small, move(false, 0, 9000, 0), api.ErrRange, api.ErrRange},
	} {
		wantError(t, "Changed", second(table.Changed(row.on, row.m)), row.table)
		wantError(t, "Carried", second(table.Carried(row.on, []table.Ball{ball("a", "1/3", "500")}, row.m)), row.balls)
	}
	want(t, "Changed", both(table.Changed(small, move(false, 0, 1, 0))), table.Table{}, api.ErrLarge)
	balls := []table.Ball{ball("a", "500", "500"), ball("b", "1", "1/"+nines(600))}
	wantList(t, "Carried", both(table.Carried(example(), balls, move(false, 0, 1, 1))), nil, api.ErrLarge)
	wantList(t, "Carried", both(table.Carried(example(), balls, move(false, 0, 9000, 1))), nil, api.ErrRange)
	wantList(t, "Carried", both(table.Carried(example(), append(balls, ball("c", "1", "1")), move(false, 0, 9000, 1))), nil, api.ErrOverlap)
	for _, broken := range brokenTables() {
		want(t, "Changed", both(table.Changed(broken.value, move(false, 0, 20000, 0))), table.Table{}, broken.err)
		wantList(t, "Carried", both(table.Carried(broken.value, make([]table.Ball, 25), move(false, 0, 20000, 0))), nil, broken.err)
		want(t, "Normal", both(table.Normal(broken.value)), table.Table{}, broken.err)
	}
}

// second returns the error of a result.
func second[T any](_ T, e api.Errno) api.Errno { return e }

// full is full for a table with its error.
func (p pair[T]) full() pair[table.Table] {
	return both(full(any(p.value).(table.Table)), p.err)
}

func TestNormal(t *testing.T) {
	wanted := table.Table{
		Corners: points(0, 0, 40, 0, 50, 30, 10, 20),
		Radius:  2,
		Pockets: []table.Pocket{pocket("a", 0, "0", "1/20"), pocket("c", 0, "1/2", "1/2"), pocket("b", 2, "1/3", "2/5")},
		Spots:   []table.Spot{spot("a", "1/3", "1/7"), spot("s", "20", "5/2")},
	}
	want(t, "Normal", both(table.Normal(lopsided())), wanted, api.OK)
	// Of corners with the same X the one with the least Y comes first; names are ordered by bytes, shares by size.
	other := table.Table{
		Corners: points(10, 10, -5, 10, -5, -10, 10, -10),
		Radius:  2,
		Pockets: []table.Pocket{pocket("b", 1, "0", "1"), pocket("a", 2, "10/11", "1"), pocket("Z", 0, "1/2", "3/4"), pocket("c", 2, "2/3", "7/10"), pocket("d", 0, "2/5", "2/5"), pocket("e", 3, "1/2", "1/2")},
		Spots:   []table.Spot{spot("b_", "1", "1"), spot("b1", "1", "1"), spot("b", "0", "1"), spot("Z", "1", "0"), spot("bA", "1", "0"), spot("ba", "1", "0")},
	}
	wanted = table.Table{
		Corners: points(-5, -10, 10, -10, 10, 10, -5, 10),
		Radius:  2,
		Pockets: []table.Pocket{pocket("c", 0, "2/3", "7/10"), pocket("a", 0, "10/11", "1"), pocket("e", 1, "1/2", "1/2"), pocket("d", 2, "2/5", "2/5"), pocket("Z", 2, "1/2", "3/4"), pocket("b", 3, "0", "1")},
		Spots:   []table.Spot{spot("Z", "1", "0"), spot("b", "0", "1"), spot("b1", "1", "1"), spot("bA", "1", "0"), spot("b_", "1", "1"), spot("ba", "1", "0")},
	}
	want(t, "Normal", both(table.Normal(other)), wanted, api.OK)
	want(t, "Normal of a normal form", both(table.Normal(wanted)), wanted, api.OK)
}

func TestAlike(t *testing.T) {
	turned := lopsided()
	turned.Corners = points(50, 30, 10, 20, 0, 0, 40, 0)
	turned.Pockets = []table.Pocket{pocket("c", 2, "1/2", "1/2"), pocket("b", 0, "1/3", "2/5"), pocket("a", 2, "0", "1/20")}
	slices.Reverse(turned.Spots)
	want(t, "Alike", both(table.Alike(lopsided(), turned)), true, api.OK)
	want(t, "Alike", both(table.Alike(example(), example())), true, api.OK)
	want(t, "Alike of other tables", both(table.Alike(example(), lopsided())), false, api.OK)
	for what, change := range map[string]func(t *table.Table){
		"a corner":           func(t *table.Table) { t.Corners[1].X++ },
		"the radius":         func(t *table.Table) { t.Radius++ },
		"the edges":          func(t *table.Table) { t.Corners = append(t.Corners[1:], t.Corners[0]) },
		"a pocket's name":    func(t *table.Table) { t.Pockets[0].Name = "bb" },
		"a pocket's edge":    func(t *table.Table) { t.Pockets[0].Edge = 1 },
		"a pocket's From":    func(t *table.Table) { t.Pockets[0].From = "1/4" },
		"a pocket's To":      func(t *table.Table) { t.Pockets[0].To = "3/5" },
		"the pockets":        func(t *table.Table) { t.Pockets = t.Pockets[:2] },
		"a spot's name":      func(t *table.Table) { t.Spots[0].Name = "ss" },
		"a spot's X":         func(t *table.Table) { t.Spots[0].At.X = "21" },
		"a spot's Y":         func(t *table.Table) { t.Spots[1].At.Y = "1/8" },
		"the spots":          func(t *table.Table) { t.Spots = t.Spots[:1] },
		"the names of spots": func(t *table.Table) { t.Spots[0].Name, t.Spots[1].Name = t.Spots[1].Name, t.Spots[0].Name },
	} {
		other := lopsided()
		change(&other)
		wantError(t, what, table.CheckTable(other), api.OK)
		want(t, "Alike but for "+what, both(table.Alike(lopsided(), other)), false, api.OK)
		want(t, "Alike but for "+what, both(table.Alike(other, lopsided())), false, api.OK)
	}
	for _, broken := range brokenTables() {
		want(t, "Alike", both(table.Alike(broken.value, table.Table{})), false, broken.err)
		want(t, "Alike", both(table.Alike(example(), broken.value)), false, broken.err)
	}
}
