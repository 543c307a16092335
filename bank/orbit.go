package bank

import (
	"slices"

	"baulk/api"
	"baulk/errno"
	"baulk/exact"
	"baulk/table"
)

// orbit is the way of a ball on a rectangle without pockets. It is seen as a straight one over a grid of images of the
// rectangle, the lines of which are the rebounds.
type orbit struct {
	bed
	x motion
	y motion
}

// motion is that of a ball along one axis; the length of the rectangle along this axis is its unit.
type motion struct {
	behind int // the coordinate of the side from which the ball goes away
	ahead  int // that of the other side
	start  exact.Fraction
	speed  exact.Fraction // from 0 on, as start is counted from the side behind
}

// Period returns the number of rebounds after which a ball is back.
func Period(t table.Table, p, d api.Place) (int, api.Errno) {
	o, e := readPeriodic(t, p, d)
	if e != api.OK {
		return 0, e
	}
	x, y := o.halfPeriod()
	return small(x.Plus(y).Times(exact.NewInt(2)))
}

// Visits returns how often a ball comes to each edge in a period.
func Visits(t table.Table, p, d api.Place) ([]int, api.Errno) {
	o, e := readPeriodic(t, p, d)
	if e != api.OK {
		return nil, e
	}
	x, y := o.halfPeriod()
	timesX, first := small(x)
	timesY, second := small(y)
	if e := errno.First(first, second); e != api.OK {
		return nil, e
	}
	var visits []int
	for _, edge := range o.Edges() {
		times := timesY
		if edge.From.X == edge.To.X {
			times = timesX
		}
		visits = append(visits, times)
	}
	return visits, api.OK
}

// Corner returns the corner to which a ball comes, and the rebounds before.
func Corner(t table.Table, p, d api.Place) (int, int, api.Errno) {
	o, e := readOrbit(t, p, d)
	if e != api.OK {
		return 0, 0, e
	}
	x, y, ok := o.corner()
	if !ok {
		return 0, 0, api.ErrNone
	}
	// At the corner itself the ball comes to a line of each kind.
	rebounds, e := small(x.Plus(y).Minus(exact.NewInt(2)))
	if e != api.OK {
		return 0, 0, e
	}
	at := api.Point{X: o.x.side(x), Y: o.y.side(y)}
	return slices.Index(o.Corners, at), rebounds, api.OK
}

// readPeriodic returns an orbit that comes to no corner, or the first error.
func readPeriodic(t table.Table, p, d api.Place) (orbit, api.Errno) {
	o, e := readOrbit(t, p, d)
	if e != api.OK {
		return orbit{}, e
	}
	if _, _, ok := o.corner(); ok {
		return orbit{}, api.ErrCorner
	}
	return o, api.OK
}

// readOrbit returns an orbit, or the first error.
func readOrbit(t table.Table, p, d api.Place) (orbit, api.Errno) {
	b, e := readTable(t)
	if e = errno.First(e, errno.If(!b.isRectangle(), api.ErrKind)); e != api.OK {
		return orbit{}, e
	}
	b.Gaps = nil
	if _, e := b.readRoll(p, d); e != api.OK {
		return orbit{}, e
	}
	c, opposite := b.Corners[0], b.Corners[2]
	return orbit{
		bed: b,
		x:   motionOf(min(c.X, opposite.X), max(c.X, opposite.X), p.X, d.X),
		y:   motionOf(min(c.Y, opposite.Y), max(c.Y, opposite.Y), p.Y, d.Y),
	}, api.OK
}

// isRectangle reports whether a table is a rectangle with sides along the axes.
func (b bed) isRectangle() bool {
	for _, edge := range b.Edges() {
		if edge.From.X != edge.To.X && edge.From.Y != edge.To.Y {
			return false
		}
	}
	return true
}

// motionOf returns the motion between two sides, from a coordinate with a speed; both are numbers.
func motionOf(low, high int, at, speed api.Rat) motion {
	place, _ := exact.Read(at)
	v, _ := exact.Read(speed)
	m := motion{behind: low, ahead: high}
	if v.Sign() < 0 {
		m = motion{behind: high, ahead: low}
	}
	length := exact.Whole(m.ahead - m.behind)
	m.start = place.Minus(exact.Whole(m.behind)).Over(length)
	m.speed = v.Over(length)
	return m
}

// side returns the coordinate of the side to which the ball comes with a line of the grid; the first one is ahead.
func (m motion) side(line exact.Int) int {
	if line.Modulo(2) == 1 {
		return m.ahead
	}
	return m.behind
}

// halfPeriod returns the numbers of lines across X and across Y to which the ball comes until it is at the same place of
// an image of the rectangle. Within a period the ball comes to each side as often as to the other one of its axis.
func (o orbit) halfPeriod() (x, y exact.Int) {
	if o.y.speed.IsZero() {
		return exact.NewInt(1), exact.NewInt(0)
	}
	slope := o.x.speed.Over(o.y.speed)
	return slope.Top(), slope.Bottom()
}

// corner returns the numbers, from 1 on, of the first line across X and the first line across Y to which the ball comes
// at one time, and whether there are such lines.
func (o orbit) corner() (x, y exact.Int, ok bool) {
	// The ball is on the lines x and y at one time if (x - start) / speed is the same along both axes. The speeds are as
	// m to n, so this is n x - m y = shift, and x is known but for multiples of m, which has no common divisor with n.
	m, n := o.halfPeriod()
	shift := o.x.start.Times(exact.NewWhole(n)).Minus(o.y.start.Times(exact.NewWhole(m)))
	if !shift.IsWhole() {
		return exact.Int{}, exact.Int{}, false
	}
	_, x = shift.Top().Times(n.Inverse(m)).Over(m)
	if x.Sign() == 0 {
		x = m
	}
	y, _ = n.Times(x).Minus(shift.Top()).Over(m)
	return x, y, true
}

// small returns a number of a result, or ErrLarge.
func small(n exact.Int) (int, api.Errno) {
	result, ok := n.UpTo(api.MaxNumber)
	return result, errno.If(!ok, api.ErrLarge)
}
