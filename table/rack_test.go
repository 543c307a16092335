package table_test

import (
	"math"
	"math/big"
	"testing"

	"baulk/api"
	"baulk/table"
)

// Tests of P2.2 (racks).

// placesOf returns the places with some integers as coordinates.
func placesOf(coordinates ...int) []api.Place {
	var list []api.Place
	for _, p := range points(coordinates...) {
		list = append(list, place(text(whole(p.X)), text(whole(p.Y))))
	}
	return list
}

// square returns a table with rows that are 7 apart, and a spot in its middle.
func square() table.Table {
	return table.Table{Corners: points(0, 0, 200, 0, 200, 200, 0, 200), Radius: 4, Spots: []table.Spot{spot("middle", "100", "100"), spot("side", "200", "8")}}
}

func TestRack(t *testing.T) {
	foot := []api.Place{place("1500", "500"), place("3105/2", "470"), place("3105/2", "530")}
	wantList(t, "Rack", both(table.Rack(example(), "foot", "triangle", [2]int{2, 0})), foot, api.OK)
	for _, row := range []struct {
		spot, kind string
		shape      [2]int
		places     []api.Place
	}{
		{"middle", "triangle", [2]int{1, 0}, placesOf(100, 100)}, {"middle", "diamond", [2]int{1, 3}, placesOf(100, 100)},
		{"middle", "triangle", [2]int{3, 0}, placesOf(100, 100, 107, 96, 107, 104, 114, 92, 114, 100, 114, 108)},
		{"middle", "triangle", [2]int{3, 1}, placesOf(100, 100, 104, 107, 96, 107, 108, 114, 100, 114, 92, 114)},
		{"middle", "triangle", [2]int{3, 2}, placesOf(100, 100, 93, 104, 93, 96, 86, 108, 86, 100, 86, 92)},
		{"middle", "triangle", [2]int{3, 3}, placesOf(100, 100, 96, 93, 104, 93, 92, 86, 100, 86, 108, 86)},
		{"middle", "diamond", [2]int{3, 0}, placesOf(100, 100, 107, 96, 107, 104, 114, 100)},
		{"middle", "diamond", [2]int{3, 1}, placesOf(100, 100, 104, 107, 96, 107, 100, 114)},
		{"middle", "diamond", [2]int{3, 2}, placesOf(100, 100, 93, 104, 93, 96, 86, 100)},
		{"middle", "diamond", [2]int{3, 3}, placesOf(100, 100, 96, 93, 104, 93, 100, 86)},
		{"middle", "diamond", [2]int{5, 0}, placesOf(100, 100, 107, 96, 107, 104, 114, 92, 114, 100, 114, 108, 121, 96, 121, 104, 128, 100)},
		{"side", "triangle", [2]int{3, 2}, placesOf(200, 8, 193, 12, 193, 4, 186, 16, 186, 8, 186, 0)},
	} {
		wantList(t, "Rack", both(table.Rack(square(), row.spot, row.kind, row.shape)), row.places, api.OK)
	}
}

func TestErrorsOfRacks(t *testing.T) {
	large := changed(func(t *table.Table) {
		t.Spots = []table.Spot{spot("small", "1/"+nines(600), "500"), spot("near", "1", "500"), spot("odd", "1/3", "1/7")}
	})
	for _, row := range []struct {
		on         table.Table
		spot, kind string
		shape      [2]int
		e          api.Errno
	}{
		{example(), "feet", "circle", [2]int{0, 4}, api.ErrUnknown}, {example(), "", "triangle", [2]int{1, 0}, api.ErrUnknown},
		{example(), "foot", "circle", [2]int{0, 4}, api.ErrKind}, {example(), "foot", "", [2]int{1, 0}, api.ErrKind}, {example(), "foot", "Triangle", [2]int{1, 0}, api.ErrKind},
		{example(), "foot", "triangle", [2]int{0, 0}, api.ErrRange}, {example(), "foot", "triangle", [2]int{7, 0}, api.ErrRange}, {example(), "foot", "triangle", [2]int{-1, 0}, api.ErrRange},
		{example(), "foot", "triangle", [2]int{math.MaxInt, math.MinInt}, api.ErrRange}, {example(), "foot", "diamond", [2]int{2, 0}, api.ErrRange}, {example(), "foot", "diamond", [2]int{6, 0}, api.ErrRange},
		{example(), "foot", "diamond", [2]int{7, 0}, api.ErrRange}, {example(), "foot", "triangle", [2]int{2, -1}, api.ErrRange}, {example(), "foot", "triangle", [2]int{2, 4}, api.ErrRange},
		{example(), "foot", "diamond", [2]int{4, 0}, api.ErrRange}, {example(), "foot", "diamond", [2]int{-1, 0}, api.ErrRange},
		{square(), "side", "triangle", [2]int{2, 0}, api.ErrOutside}, {square(), "side", "triangle", [2]int{4, 2}, api.ErrOutside}, {square(), "side", "triangle", [2]int{2, 1}, api.ErrOutside},
		{large, "small", "triangle", [2]int{2, 0}, api.ErrLarge}, {large, "small", "triangle", [2]int{2, 2}, api.ErrOutside}, {large, "odd", "triangle", [2]int{2, 1}, api.ErrOutside},
	} {
		wantList(t, "Rack", both(table.Rack(row.on, row.spot, row.kind, row.shape)), nil, row.e)
	}
	wantList(t, "Rack of one ball", both(table.Rack(large, "small", "triangle", [2]int{1, 2})), []api.Place{place("1/"+nines(600), "500")}, api.OK)
	for _, broken := range brokenTables() {
		wantList(t, "Rack", both(table.Rack(broken.value, "", "", [2]int{})), nil, broken.err)
	}
}

// rackOf returns the places of a rack by the definition, on which nothing is said about tables.
func rackOf(radius int, at [2]*big.Rat, widths []int, quarters int) []api.Place {
	var places []api.Place
	for k, m := range widths {
		for i := range m {
			x, y := big.NewRat(int64(7*radius*k), 4), whole((2*i-m+1)*radius)
			for range quarters {
				x, y = new(big.Rat).Neg(y), x
			}
			places = append(places, place(text(sum(at[0], x)), text(sum(at[1], y))))
		}
	}
	return places
}

func TestRacksAgainstLibrary(t *testing.T) {
	on := table.Table{Corners: points(-10000, -10000, 10000, -10000, 10000, 10000, -10000, 10000), Spots: []table.Spot{spot("s", "1/3", "-2/7")}}
	widths := map[string][][]int{
		"triangle": {{1}, {1, 2}, {1, 2, 3}, {1, 2, 3, 4}, {1, 2, 3, 4, 5}, {1, 2, 3, 4, 5, 6}},
		"diamond":  {{1}, {1, 2, 1}, {1, 2, 3, 2, 1}},
	}
	for kind, list := range widths {
		for _, row := range list {
			for i := range 4 * 5 {
				on.Radius = []int{1, 2, 30, 57, 1000}[i/4]
				places := rackOf(on.Radius, [2]*big.Rat{big.NewRat(1, 3), big.NewRat(-2, 7)}, row, i%4)
				wantList(t, "Rack", both(table.Rack(on, "s", kind, [2]int{len(row), i % 4})), places, api.OK)
			}
		}
	}
}
