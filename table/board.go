package table

import (
	"slices"

	"baulk/api"
	"baulk/errno"
	"baulk/exact"
	"baulk/number"
	"baulk/outline"
	"baulk/plane"
)

// board is a table whose numbers have been read.
type board struct {
	outline.Outline
	radius int
	spots  map[string]plane.Place
}

// readTable returns a table, or its error.
func readTable(t Table) (board, api.Errno) {
	b := board{Outline: outline.Outline{Corners: t.Corners}, radius: t.Radius}
	e := outlineError(t)
	if e != api.OK {
		return board{}, e
	}
	if b.Gaps, e = b.readPockets(t.Pockets); e != api.OK {
		return board{}, e
	}
	if b.spots, e = b.readSpots(t.Spots); e != api.OK {
		return board{}, e
	}
	return b, api.OK
}

// outlineError returns the first error of the corners and the radius.
func outlineError(t Table) api.Errno {
	switch {
	case len(t.Corners) < 3:
		return api.ErrShape
	case len(t.Corners) > api.MaxCorners:
		return api.ErrMany
	case slices.ContainsFunc(t.Corners, isFar):
		return api.ErrRange
	case !isConvex(t.Corners):
		return api.ErrConvex
	case t.Radius < 1 || t.Radius > MaxRadius:
		return api.ErrRange
	}
	return api.OK
}

// isFar reports whether a coordinate of a point is too large.
func isFar(p api.Point) bool {
	return min(p.X, p.Y) < -api.MaxSize || max(p.X, p.Y) > api.MaxSize
}

// isConvex reports whether corners are those of a convex polygon, counterclockwise, no three of them on one line.
func isConvex(corners []api.Point) bool {
	seen := map[api.Point]bool{}
	for _, c := range corners {
		if seen[c] {
			return false
		}
		seen[c] = true
	}
	for _, side := range outline.Edges(corners) {
		for _, c := range corners {
			if c != side.From && c != side.To && side.Side(plane.Part(c, 1)) <= 0 {
				return false
			}
		}
	}
	return true
}

// readPockets returns the gaps of pockets, or the error of the first pocket with one.
func (b board) readPockets(pockets []Pocket) ([]outline.Gap, api.Errno) {
	if len(pockets) > api.MaxPockets {
		return nil, api.ErrMany
	}
	var gaps []outline.Gap
	names := map[string]bool{}
	for _, p := range pockets {
		from, first := exact.Read(p.From)
		to, second := exact.Read(p.To)
		g := outline.Gap{Edge: p.Edge, From: from.Ratio(), To: to.Ratio()}
		e := errno.First(
			nameError(p.Name, names),
			errno.If(!b.HasEdge(p.Edge), api.ErrUnknown),
			first,
			second,
			errno.If(!isShare(from) || !isShare(to), api.ErrRange),
			errno.If(from.Order(to) > 0, api.ErrOrder),
			errno.If(slices.ContainsFunc(gaps, g.Overlaps), api.ErrOverlap),
		)
		if e != api.OK {
			return nil, e
		}
		gaps = append(gaps, g)
	}
	return gaps, api.OK
}

// readSpots returns the places of spots, or the error of the first one with one.
func (b board) readSpots(spots []Spot) (map[string]plane.Place, api.Errno) {
	if len(spots) > api.MaxList {
		return nil, api.ErrMany
	}
	places := map[string]plane.Place{}
	names := map[string]bool{}
	for _, s := range spots {
		at, e := b.readNamed(s.Name, s.At, names)
		if e != api.OK {
			return nil, e
		}
		places[s.Name] = at
	}
	return places, api.OK
}

// readNamed returns the place of a thing on a table, whose name none before it has, or its error.
func (b board) readNamed(name string, p api.Place, names map[string]bool) (plane.Place, api.Errno) {
	at, e := plane.Read(p)
	return at, errno.First(nameError(name, names), e, errno.If(b.Position(at) < 0, api.ErrOutside))
}

// nameError returns the error of a name that is none, or that is among those before it, and adds it to these.
func nameError(name string, before map[string]bool) api.Errno {
	switch {
	case !number.IsName(name):
		return api.ErrName
	case before[name]:
		return api.ErrTwice
	}
	before[name] = true
	return api.OK
}

// isShare reports whether a number is from 0 to 1.
func isShare(x exact.Fraction) bool { return x.Sign() >= 0 && x.Order(exact.Whole(1)) <= 0 }
