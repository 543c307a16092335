// Package outline has the outlines of tables: convex polygons with gaps, those of the pockets, in their edges.
package outline

import (
	"iter"

	"baulk/api"
	"baulk/exact"
	"baulk/plane"
)

// Outline is a convex polygon, counterclockwise, with gaps.
type Outline struct {
	Corners []api.Point
	Gaps    []Gap
}

// Gap is the part of an edge that a pocket has.
type Gap struct {
	Edge int
	From exact.Ratio
	To   exact.Ratio
}

// Share is a share of an edge, which is a fraction or any other number that can be compared with one.
type Share interface {
	Order(b exact.Ratio) int
}

// Edge is the way from a corner to the next one.
type Edge struct {
	From api.Point
	To   api.Point
}

// Edges goes through the edges of a polygon, each one with its number.
func Edges(corners []api.Point) iter.Seq2[int, Edge] {
	return func(yield func(int, Edge) bool) {
		for i := range corners {
			if !yield(i, edgeAt(corners, i)) {
				return
			}
		}
	}
}

// edgeAt returns an edge of a polygon by its number.
func edgeAt(corners []api.Point, i int) Edge {
	return Edge{From: corners[i], To: corners[(i+1)%len(corners)]}
}

// HasEdge reports whether there is an edge with a number.
func (o Outline) HasEdge(edge int) bool { return edge >= 0 && edge < len(o.Corners) }

// Edges goes through the edges, each one with its number.
func (o Outline) Edges() iter.Seq2[int, Edge] { return Edges(o.Corners) }

// Edge returns the edge with a number.
func (o Outline) Edge(edge int) Edge { return edgeAt(o.Corners, edge) }

// Position returns 1 for a place inside, 0 for one on an edge, -1 for one outside.
func (o Outline) Position(p plane.Place) int {
	least := 1
	for _, side := range o.Edges() {
		least = min(least, side.Side(p))
	}
	return least
}

// GapAt returns the number of the first gap that has a share of an edge, or -1.
func (o Outline) GapAt(edge int, share Share) int {
	for i, g := range o.Gaps {
		if o.has(g, edge, share) {
			return i
		}
	}
	return -1
}

// has reports whether a gap has a share of an edge; a corner is the beginning of one edge and the end of another one.
func (o Outline) has(g Gap, edge int, share Share) bool {
	start, end := exact.Ratio{}, exact.Whole(1).Ratio()
	switch {
	case g.Edge == edge && g.contains(share):
		return true
	case share.Order(start) == 0 && o.next(g.Edge) == edge:
		return g.contains(end)
	case share.Order(end) == 0 && o.next(edge) == g.Edge:
		return g.contains(start)
	}
	return false
}

// next returns the number of the edge behind an edge.
func (o Outline) next(edge int) int { return (edge + 1) % len(o.Corners) }

// contains reports whether a share of the edge of a gap is in it.
func (g Gap) contains(share Share) bool {
	return share.Order(g.From) >= 0 && share.Order(g.To) <= 0
}

// Overlaps reports whether two gaps have a share of one edge in common.
func (g Gap) Overlaps(h Gap) bool {
	return g.Edge == h.Edge && g.From.Order(h.To) <= 0 && h.From.Order(g.To) <= 0
}

// Side returns 1, 0 or -1 for a place to the left of the line of the edge, on it, or to its right.
func (e Edge) Side(p plane.Place) int { return p.Side(e.From, e.To) }

// Share returns the share of the edge at which a place of its line is.
func (e Edge) Share(p plane.Place) exact.Ratio { return p.Share(e.From, e.To) }

// Place returns the place at a share of the edge.
func (e Edge) Place(share exact.Fraction) plane.Place { return plane.Between(e.From, e.To, share) }

// Crossing returns the place in which the way from p through q crosses the line of the edge; p is farther to its left
// than q.
func (e Edge) Crossing(p, q plane.Place) plane.Place { return plane.Crossing(p, q, e.From, e.To) }

// Image returns a place that is mirrored at the line of the edge.
func (e Edge) Image(p plane.Place) plane.Place { return p.Mirrored(e.From, e.To) }

// Turned returns a direction that is mirrored at the edge.
func (e Edge) Turned(d plane.Place) plane.Place { return d.Mirrored(api.Point{}, e.way()) }

// Turn returns 1, 0 or -1 for a direction that leads to the left of the edge, along it, or to its right.
func (e Edge) Turn(d plane.Place) int { return d.Side(api.Point{}, e.way()) }

// way returns the vector along the edge.
func (e Edge) way() api.Point { return api.Point{X: e.To.X - e.From.X, Y: e.To.Y - e.From.Y} }
