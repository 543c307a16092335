package aim

import (
	"baulk/api"
	"baulk/errno"
	"baulk/exact"
	"baulk/plane"
)

// line is that from a target through a ball, which is at another place.
type line struct {
	radius int
	ball   plane.Place
	way    vector    // from the target to the ball, times scale
	scale  exact.Int // above 0
}

// readLine returns a line, or the first error.
func readLine(radius int, ball, target api.Place) (line, api.Errno) {
	at, first := plane.Read(ball)
	to, second := plane.Read(target)
	// Each number has only one text.
	e := errno.First(radiusError(radius), first, second, errno.If(ball == target, api.ErrZero))
	if e != api.OK {
		return line{}, e
	}
	way, scale := whole(at.Minus(to))
	return line{radius: radius, ball: at, way: way, scale: scale}, api.OK
}

// ghost returns the ghost of the ball, or ErrLarge.
func (l line) ghost() (Place, api.Errno) {
	at, width := whole(l.ball)
	square := exact.NewWhole(l.way.dot(l.way))
	length := exact.NewWhole(l.scale.Times(exact.NewInt(2 * l.radius)))
	scale := exact.NewWhole(l.scale)
	coordinate := func(start, way exact.Int) (api.Surd, api.Errno) {
		return exact.WriteSurd(exact.Surd{
			A: exact.NewFraction(start, width),
			B: length.Times(exact.NewWhole(way)).Over(square),
			D: square.Over(scale.Times(scale)),
		})
	}
	x, first := coordinate(at.x, l.way.x)
	y, second := coordinate(at.y, l.way.y)
	if e := errno.First(first, second); e != api.OK {
		return Place{}, e
	}
	return Place{X: x, Y: y}, api.OK
}

// cut returns 1, 0 or -1 as the cut from a place is less than, equal to, or more than a right angle.
func (l line) cut(from plane.Place) int {
	to, width := whole(l.ball.Minus(from))
	// The way to the ghost is that to the ball and two radii along the line, away from the target.
	return exact.Surd{
		A: exact.NewWhole(to.dot(l.way).Negated()),
		B: exact.NewWhole(width.Times(exact.NewInt(-2 * l.radius))),
		D: exact.NewWhole(l.way.dot(l.way)),
	}.Sign()
}
