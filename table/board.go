package table

import (
	"iter"
	"slices"

	"baulk/api"
	"baulk/exact"
	"baulk/number"
	"baulk/plane"
)

// board is a table whose numbers have been read.
type board struct {
	corners []api.Point
	radius  int
	gaps    []gap
	spots   map[string]plane.Place
}

// gap is the part of an edge that a pocket has.
type gap struct {
	edge int
	from exact.Fraction
	to   exact.Fraction
}

// edge is the way from a corner to the next one.
type edge struct {
	from api.Point
	to   api.Point
}

// edges goes through the edges of a table, each one with its number.
func edges(corners []api.Point) iter.Seq2[int, edge] {
	return func(yield func(int, edge) bool) {
		for i, from := range corners {
			if !yield(i, edge{from: from, to: corners[(i+1)%len(corners)]}) {
				return
			}
		}
	}
}

// readTable returns a table, or its error.
func readTable(t Table) (board, api.Errno) {
	b := board{corners: t.Corners, radius: t.Radius}
	e := outlineError(t)
	if e != api.OK {
		return board{}, e
	}
	if b.gaps, e = readPockets(t); e != api.OK {
		return board{}, e
	}
	if b.spots, e = b.readSpots(t.Spots); e != api.OK {
		return board{}, e
	}
	return b, api.OK
}

// outlineError returns the first error of the corners and the radius.
func outlineError(t Table) api.Errno {
	switch {
	case len(t.Corners) < 3:
		return api.ErrShape
	case len(t.Corners) > api.MaxCorners:
		return api.ErrMany
	case slices.ContainsFunc(t.Corners, isFar):
		return api.ErrRange
	case !isConvex(t.Corners):
		return api.ErrConvex
	case t.Radius < 1 || t.Radius > MaxRadius:
		return api.ErrRange
	}
	return api.OK
}

// isFar reports whether a coordinate of a point is too large.
func isFar(p api.Point) bool {
	return min(p.X, p.Y) < -api.MaxSize || max(p.X, p.Y) > api.MaxSize
}

// isConvex reports whether corners are those of a convex polygon, counterclockwise, no three of them on one line.
func isConvex(corners []api.Point) bool {
	seen := map[api.Point]bool{}
	for _, c := range corners {
		if seen[c] {
			return false
		}
		seen[c] = true
	}
	for _, side := range edges(corners) {
		for _, c := range corners {
			if c != side.from && c != side.to && plane.Part(c, 1).Side(side.from, side.to) <= 0 {
				return false
			}
		}
	}
	return true
}

// readPockets returns the gaps of the pockets of a table, or the error of the first pocket with one.
func readPockets(t Table) ([]gap, api.Errno) {
	if len(t.Pockets) > api.MaxPockets {
		return nil, api.ErrMany
	}
	var gaps []gap
	names := map[string]bool{}
	for _, p := range t.Pockets {
		from, first := exact.Read(p.From)
		to, second := exact.Read(p.To)
		g := gap{edge: p.Edge, from: from, to: to}
		e := firstError(
			nameError(p.Name, names),
			errorIf(!isEdge(p.Edge, t.Corners), api.ErrUnknown),
			first,
			second,
			errorIf(!isShare(from) || !isShare(to), api.ErrRange),
			errorIf(from.Order(to) > 0, api.ErrOrder),
			errorIf(slices.ContainsFunc(gaps, g.overlaps), api.ErrOverlap),
		)
		if e != api.OK {
			return nil, e
		}
		gaps = append(gaps, g)
	}
	return gaps, api.OK
}

// readSpots returns the places of spots, or the error of the first one with one.
func (b board) readSpots(spots []Spot) (map[string]plane.Place, api.Errno) {
	if len(spots) > api.MaxList {
		return nil, api.ErrMany
	}
	places := map[string]plane.Place{}
	names := map[string]bool{}
	for _, s := range spots {
		at, e := b.readNamed(s.Name, s.At, names)
		if e != api.OK {
			return nil, e
		}
		places[s.Name] = at
	}
	return places, api.OK
}

// readNamed returns the place of a thing on a table, whose name none before it has, or its error.
func (b board) readNamed(name string, p api.Place, names map[string]bool) (plane.Place, api.Errno) {
	at, e := plane.Read(p)
	return at, firstError(nameError(name, names), e, errorIf(b.position(at) < 0, api.ErrOutside))
}

// nameError returns the error of a name that is none, or that is among those before it, and adds it to these.
func nameError(name string, before map[string]bool) api.Errno {
	switch {
	case !number.IsName(name):
		return api.ErrName
	case before[name]:
		return api.ErrTwice
	}
	before[name] = true
	return api.OK
}

// firstError returns the first of some errors that is not OK.
func firstError(errors ...api.Errno) api.Errno {
	for _, e := range errors {
		if e != api.OK {
			return e
		}
	}
	return api.OK
}

// errorIf returns an error if a condition holds, otherwise OK.
func errorIf(condition bool, e api.Errno) api.Errno {
	if condition {
		return e
	}
	return api.OK
}

// isEdge reports whether there is an edge with a number.
func isEdge(edge int, corners []api.Point) bool { return edge >= 0 && edge < len(corners) }

// isShare reports whether a number is from 0 to 1.
func isShare(x exact.Fraction) bool { return x.Sign() >= 0 && x.Order(exact.Whole(1)) <= 0 }

// next returns the number of the edge behind an edge.
func (b board) next(edge int) int { return (edge + 1) % len(b.corners) }

// position returns 1 for a place inside, 0 for one on an edge, -1 for one outside.
func (b board) position(p plane.Place) int {
	least := 1
	for _, side := range edges(b.corners) {
		least = min(least, p.Side(side.from, side.to))
	}
	return least
}

// contains reports whether a share of the edge of a gap is in it.
func (g gap) contains(share exact.Fraction) bool {
	return g.from.Order(share) <= 0 && share.Order(g.to) <= 0
}

// overlaps reports whether two gaps have a share of one edge in common.
func (g gap) overlaps(h gap) bool {
	return g.edge == h.edge && g.from.Order(h.to) <= 0 && h.from.Order(g.to) <= 0
}

// has reports whether a gap has a share of an edge; a corner is the beginning of one edge and the end of another one.
func (b board) has(g gap, edge int, share exact.Fraction) bool {
	start, end := exact.Whole(0), exact.Whole(1)
	switch {
	case g.edge == edge && g.contains(share):
		return true
	case share.Order(start) == 0 && b.next(g.edge) == edge:
		return g.contains(end)
	case share.Order(end) == 0 && b.next(edge) == g.edge:
		return g.contains(start)
	}
	return false
}
