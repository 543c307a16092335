package aim

import (
	"baulk/api"
	"baulk/errno"
	"baulk/exact"
	"baulk/plane"
	"baulk/scene"
)

// stroke is a ball that is played from a place in a direction whose coordinates are numbers; the balls of its scene are
// the others.
type stroke struct {
	scene.Scene
	from      plane.Place
	direction plane.Place
}

// first returns the contact with the ball that is hit first, and whether there is one.
func (s stroke) first() (contact, bool) {
	var first meeting
	found := false
	for m := range straight(s.from, s.direction).hits(s.Scene) {
		if !found || m.order(first) < 0 {
			first, found = m, true
		}
	}
	return newContact(s.from, s.direction, s.Reach(), first), found
}

// outcome returns the number of the pocket that has the entry of the ball that is hit, or -1, and whether another ball
// than the one that is played blocks it.
func (s stroke) outcome(c contact) (int, bool) {
	away := c.away()
	for range away.hits(s.Without(c.ball.Name)) {
		return -1, true
	}
	return pocketAt(s.Scene, away), false
}

// pocketAt returns the number of the first pocket that has the end of a course, or -1.
func pocketAt(s scene.Scene, c course) int {
	end := c.end(s.Outline)
	return s.GapAt(end.edge, end.share())
}

// contact is that of a ball with another one that it hits. It is computed in whole numbers and the root of one whole
// number, which is the root of D times scale and unit.
type contact struct {
	meeting
	from   plane.Place
	to     vector    // the direction, times unit
	unit   exact.Int // above 0
	square exact.Int // of to
	reach  exact.Int // the square of two radii
}

// newContact returns the contact with a ball that is met.
func newContact(from, direction plane.Place, reach int, m meeting) contact {
	to, unit := whole(direction)
	return contact{meeting: m, from: from, to: to, unit: unit, square: to.dot(to), reach: exact.NewInt(reach)}
}

// surd returns a surd of the contact.
func (c contact) surd(a, b exact.Int) exact.Surd {
	return exact.Surd{A: exact.NewWhole(a), B: exact.NewWhole(b), D: c.root.A}
}

// heading returns a vector of whole numbers as one of surds of the contact.
func (c contact) heading(v vector) heading { return headed(v, c.root.A) }

// lapse returns s: how far along the direction the contact is.
func (c contact) lapse() part {
	return part{top: c.left(c.unit), bottom: c.scale.Times(c.square)}
}

// place returns the place of the contact, times a number, and this number.
func (c contact) place() (heading, exact.Int) {
	start, width := whole(c.from)
	bottom := c.scale.Times(c.square)
	way := c.heading(c.to).times(c.left(width))
	return way.plus(c.heading(start.times(bottom))), bottom.Times(width)
}

// parting returns n, the direction of the ball that is hit, times a number, and this number.
func (c contact) parting() (heading, exact.Int) {
	back := c.heading(c.to).times(c.left(exact.NewInt(-1)))
	return back.plus(c.heading(c.way.times(c.square))), c.scale.Times(c.square)
}

// onward returns m, the direction of the ball that hits it, times a number, and this number.
func (c contact) onward() (heading, exact.Int) {
	n, bottom := c.parting()
	// The scalar product of n and the direction is the root of D, so the part along n is this root times n, divided by
	// the square of two radii.
	bottom = bottom.Times(c.scale).Times(c.reach)
	along := n.times(c.surd(exact.Int{}, exact.NewInt(-1)))
	return along.plus(c.heading(c.to.times(bottom))), bottom.Times(c.unit)
}

// away returns the course of the ball that is hit.
func (c contact) away() course {
	n, bottom := c.parting()
	return course{from: c.ball.At, to: n, square: bottom.Times(bottom).Times(c.reach)}
}

// write returns a surd of the contact, or ErrLarge.
func (c contact) write(p part) (api.Surd, api.Errno) {
	bottom, width := exact.NewWhole(p.bottom), exact.NewWhole(c.scale.Times(c.unit))
	return exact.WriteSurd(exact.Surd{
		A: p.top.A.Over(bottom),
		B: p.top.B.Times(width).Over(bottom),
		D: c.root.A.Over(width.Times(width)),
	})
}

// writePlace returns a vector of surds of the contact, divided by a number, or ErrLarge.
func (c contact) writePlace(h heading, bottom exact.Int) (Place, api.Errno) {
	x, first := c.write(part{top: h.x, bottom: bottom})
	y, second := c.write(part{top: h.y, bottom: bottom})
	if e := errno.First(first, second); e != api.OK {
		return Place{}, e
	}
	return Place{X: x, Y: y}, api.OK
}
