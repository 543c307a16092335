package aim

import (
	"iter"
	"slices"

	"baulk/api"
	"baulk/exact"
	"baulk/outline"
	"baulk/plane"
	"baulk/scene"
)

// course is the way of a ball from a place in a direction. The direction is scaled so that its numbers are whole, as
// sums of fractions would have to be reduced; this changes neither what the ball hits nor where its way ends.
type course struct {
	from   plane.Place
	to     heading
	square exact.Int // of the direction
}

// straight returns the course in a direction whose coordinates are numbers.
func straight(from, direction plane.Place) course {
	to, _ := whole(direction)
	return course{from: from, to: headed(to, exact.Fraction{}), square: to.dot(to)}
}

// end is where a course comes to the line of an edge: s, as a multiple of the direction, is there beside divided by
// scale and across.
type end struct {
	edge   int
	side   vector     // the way along the edge
	since  vector     // that from the beginning of the edge to the start of the course, times scale
	scale  exact.Int  // above 0, the same for all ends of a course
	beside exact.Int  // the cross product of side and since
	along  exact.Surd // the scalar product of the direction and side
	across exact.Surd // their cross product
}

// end returns the end of a course that begins on a table.
func (c course) end(o outline.Outline) end {
	var ends []end
	for i, edge := range o.Edges() {
		if e := c.endAt(i, edge); e.across.Sign() > 0 {
			ends = append(ends, e)
		}
	}
	return slices.MinFunc(ends, end.order)
}

// endAt returns where a course comes to the line of an edge.
func (c course) endAt(number int, edge outline.Edge) end {
	side := between(edge.From, edge.To)
	since, scale := whole(c.from.Minus(plane.Part(edge.From, 1)))
	return end{
		edge:   number,
		side:   side,
		since:  since,
		scale:  scale,
		beside: side.cross(since),
		along:  c.to.dot(side),
		across: c.to.cross(side),
	}
}

// order returns -1, 0 or 1 if a course comes to one end before, together with, or behind another one.
func (e end) order(f end) int {
	first := f.across.Scaled(exact.NewWhole(e.beside))
	second := e.across.Scaled(exact.NewWhole(f.beside))
	return first.Minus(second).Sign()
}

// share returns the share of its edge at which an end is.
func (e end) share() part {
	way := quotient(e.beside, e.across)
	start := exact.NewWhole(e.since.dot(e.side).Times(way.bottom))
	return part{
		top:    way.top.Times(e.along).Plus(exact.Surd{A: start}),
		bottom: way.bottom.Times(e.scale).Times(e.side.dot(e.side)),
	}
}

// meeting is a ball that is hit on a course: s, as a multiple of the direction, is there along less the root of root,
// divided by scale and the square of the direction.
type meeting struct {
	ball  scene.Ball
	way   vector    // from the start to the ball, times scale
	scale exact.Int // above 0
	along exact.Surd
	root  exact.Surd // above 0
}

// meet returns how a ball is hit, or ErrOverlap if it overlaps the one at the start, or ErrNone if it is not hit; reach
// is the square of two radii.
func (c course) meet(b scene.Ball, reach int) (meeting, api.Errno) {
	way, scale := whole(b.At.Minus(c.from))
	room := way.dot(way).Minus(scale.Times(scale).Times(exact.NewInt(reach)))
	along := c.to.dot(way)
	root := along.Times(along).Minus(exact.Surd{A: exact.NewWhole(c.square.Times(room))})
	switch {
	case room.Sign() < 0:
		return meeting{}, api.ErrOverlap
	case along.Sign() <= 0 || root.Sign() <= 0:
		return meeting{}, api.ErrNone
	}
	return meeting{ball: b, way: way, scale: scale, along: along, root: root}, api.OK
}

// hits goes through the balls of a scene that are hit before the end of a course, in their order.
func (c course) hits(s scene.Scene) iter.Seq[meeting] {
	return func(yield func(meeting) bool) {
		end := c.end(s.Outline)
		for _, ball := range s.Balls {
			m, e := c.meet(ball, s.Reach())
			if e == api.OK && c.isBefore(m, end) && !yield(m) {
				return
			}
		}
	}
}

// isBefore reports whether a ball is hit before the end of a course.
func (c course) isBefore(m meeting, e end) bool {
	// The s of both is multiplied by all that it is divided by. What is left then is along less the part that belongs to
	// the end, which has to be less than the root.
	times := e.across.Scaled(exact.NewWhole(e.scale)).Times
	rest := times(m.along).Minus(exact.Surd{A: exact.NewWhole(e.beside.Times(m.scale).Times(c.square))})
	return rest.Sign() < 0 || rest.Times(rest).Minus(times(times(m.root))).Sign() < 0
}

// order returns -1, 0 or 1 if a ball is hit before, together with, or behind another one, on a course in a direction
// whose coordinates are numbers.
func (m meeting) order(k meeting) int { return m.left(k.scale).Order(k.left(m.scale)) }

// left returns along less the root, times a number.
func (m meeting) left(factor exact.Int) exact.Surd {
	n := exact.NewWhole(factor)
	return exact.Surd{A: m.along.A.Times(n), B: n.Negated(), D: m.root.A}
}
