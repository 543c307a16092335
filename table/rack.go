package table

import (
	"baulk/api"
	"baulk/plane"
)

// rackKind says which numbers of rows racks of a kind have, and how many places there are in each row.
type rackKind struct {
	allows func(rows int) bool
	width  func(rows, row int) int
}

// rackKindOf returns the kind of racks with a name, and whether there is one.
func rackKindOf(name string) (rackKind, bool) {
	kind, ok := map[string]rackKind{
		"triangle": {
			allows: func(rows int) bool { return true },
			width:  func(rows, row int) int { return row + 1 },
		},
		"diamond": {
			allows: func(rows int) bool { return rows%2 == 1 },
			width:  func(rows, row int) int { return min(row+1, rows-row) },
		},
	}[name]
	return kind, ok
}

// Rack returns the places of a rack.
func Rack(t Table, spot, kind string, shape [2]int) ([]api.Place, api.Errno) {
	b, e := readTable(t)
	if e != api.OK {
		return nil, e
	}
	start, known := b.spots[spot]
	k, ok := rackKindOf(kind)
	rows, quarters := shape[0], shape[1]
	switch {
	case !known:
		return nil, api.ErrUnknown
	case !ok:
		return nil, api.ErrKind
	case rows < 1 || rows > MaxRows || !k.allows(rows) || quarters < 0 || quarters > 3:
		return nil, api.ErrRange
	}
	var places []plane.Place
	for _, way := range k.ways(rows, b.radius) {
		at := start.Plus(plane.Part(turned(way, quarters), wayUnit))
		if b.Position(at) < 0 {
			return nil, api.ErrOutside
		}
		places = append(places, at)
	}
	return changed(places, plane.Place.Write)
}

// wayUnit is the part of 1 in which the ways to the places of a rack are given, so that they are integers: rows are 7/4
// of a radius apart.
const wayUnit = 4

// ways returns the ways from the spot to the places of a rack that is not turned, row by row.
func (k rackKind) ways(rows, radius int) []api.Point {
	var ways []api.Point
	for row := range rows {
		width := k.width(rows, row)
		for i := range width {
			aside := 2*i - (width - 1)
			ways = append(ways, api.Point{X: 7 * radius * row, Y: wayUnit * radius * aside})
		}
	}
	return ways
}

// turned returns a vector that is turned by quarters.
func turned(p api.Point, quarters int) api.Point {
	for range (quarters%4 + 4) % 4 {
		p = api.Point{X: -p.Y, Y: p.X}
	}
	return p
}
