// Package plane has places of the plane with coordinates of any size, and how they lie to each other and to lines.
package plane

import (
	"baulk/api"
	"baulk/exact"
)

// Place is the place, or the vector, x/w, y/w. The fractions are not reduced, as this would take most of the time.
type Place struct {
	x exact.Int
	y exact.Int
	w exact.Int // above 0, except in the zero value
}

// Read returns a place of package api, or its error.
func Read(p api.Place) (Place, api.Errno) {
	x, e := exact.Read(p.X)
	if e != api.OK {
		return Place{}, e
	}
	y, e := exact.Read(p.Y)
	if e != api.OK {
		return Place{}, e
	}
	return Place{
		x: x.Top().Times(y.Bottom()),
		y: y.Top().Times(x.Bottom()),
		w: x.Bottom().Times(y.Bottom()),
	}, api.OK
}

// Write returns a place of package api, or ErrLarge.
func (p Place) Write() (api.Place, api.Errno) {
	x, e := exact.Write(exact.NewFraction(p.x, p.w))
	if e != api.OK {
		return api.Place{}, e
	}
	y, e := exact.Write(exact.NewFraction(p.y, p.w))
	if e != api.OK {
		return api.Place{}, e
	}
	return api.Place{X: x, Y: y}, api.OK
}

// Whole returns whole numbers x, y and w, which is above 0, of which the place is x/w, y/w.
func (p Place) Whole() (x, y, w exact.Int) { return p.x, p.y, p.w }

// Part returns a point divided by an integer above 0.
func Part(p api.Point, n int) Place {
	return Place{x: exact.NewInt(p.X), y: exact.NewInt(p.Y), w: exact.NewInt(n)}
}

// Plus returns the sum of two vectors.
func (p Place) Plus(q Place) Place {
	return Place{
		x: p.x.Times(q.w).Plus(q.x.Times(p.w)),
		y: p.y.Times(q.w).Plus(q.y.Times(p.w)),
		w: p.w.Times(q.w),
	}
}

// Times returns a multiple of a vector.
func (p Place) Times(n int) Place {
	factor := exact.NewInt(n)
	return Place{x: p.x.Times(factor), y: p.y.Times(factor), w: p.w}
}

// Moved returns the place that a mapping makes of p, which makes x and y of the unit vectors of the axes and then adds
// a vector.
func (p Place) Moved(x, y, by api.Point) Place {
	coordinate := func(x, y, by int) exact.Int {
		return sumOf(p.x.Times(exact.NewInt(x)), p.y.Times(exact.NewInt(y)), p.w.Times(exact.NewInt(by)))
	}
	return Place{x: coordinate(x.X, y.X, by.X), y: coordinate(x.Y, y.Y, by.Y), w: p.w}
}

// sumOf returns the sum of integers.
func sumOf(list ...exact.Int) exact.Int {
	sum := exact.Int{}
	for _, x := range list {
		sum = sum.Plus(x)
	}
	return sum
}

// Between returns the place at a share of the way from one point to another one.
func Between(from, to api.Point, share exact.Fraction) Place {
	x, y := way(from, to)
	return Place{
		x: exact.NewInt(from.X).Times(share.Bottom()).Plus(x.Times(share.Top())),
		y: exact.NewInt(from.Y).Times(share.Bottom()).Plus(y.Times(share.Top())),
		w: share.Bottom(),
	}
}

// Share returns the share at which a place of the line from one point to another one is; 0 if these are the same.
func (p Place) Share(from, to api.Point) exact.Ratio {
	x, y := way(from, to)
	alongX, alongY := p.since(from)
	if x.Sign() != 0 {
		return exact.NewRatio(alongX, x.Times(p.w))
	}
	return exact.NewRatio(alongY, y.Times(p.w))
}

// Side returns 1, 0 or -1 for a place to the left of the line from one point to another one, on it, or to its right.
func (p Place) Side(from, to api.Point) int { return p.beside(from, to).Sign() }

// beside returns w times the vector product of the ways from one point to another one and to p.
func (p Place) beside(from, to api.Point) exact.Int {
	x, y := way(from, to)
	alongX, alongY := p.since(from)
	return x.Times(alongY).Minus(y.Times(alongX))
}

// Crossing returns the place in which the line through p and q crosses that from one point to another one; p is farther
// to the left of the latter than q.
func Crossing(p, q Place, from, to api.Point) Place {
	a, b := p.beside(from, to), q.beside(from, to)
	return Place{
		x: a.Times(q.x).Minus(b.Times(p.x)),
		y: a.Times(q.y).Minus(b.Times(p.y)),
		w: a.Times(q.w).Minus(b.Times(p.w)),
	}
}

// Mirrored returns the image of p in the line from one point to another one, which is not the same.
func (p Place) Mirrored(from, to api.Point) Place {
	x, y := way(from, to)
	alongX, alongY := p.since(from)
	square := sumOf(x.Times(x), y.Times(y))
	twice := sumOf(x.Times(alongX), y.Times(alongY)).Times(exact.NewInt(2))
	image := Place{
		x: twice.Times(x).Minus(square.Times(alongX)),
		y: twice.Times(y).Minus(square.Times(alongY)),
		w: square.Times(p.w),
	}
	return image.Plus(Part(from, 1))
}

// way returns the way from one point to another one.
func way(from, to api.Point) (x, y exact.Int) {
	return exact.NewInt(to.X).Minus(exact.NewInt(from.X)), exact.NewInt(to.Y).Minus(exact.NewInt(from.Y))
}

// since returns w times the way from a point to p.
func (p Place) since(from api.Point) (x, y exact.Int) {
	return p.x.Minus(p.w.Times(exact.NewInt(from.X))), p.y.Minus(p.w.Times(exact.NewInt(from.Y)))
}

// Distance returns the square of the distance of two places.
func Distance(p, q Place) exact.Ratio {
	way := p.Minus(q)
	return Dot(way, way)
}

// Gap returns the square of the least distance of a place from those of the way from one place to another one, which may
// be the same.
func Gap(from, to, p Place) exact.Ratio {
	whole, part := to.Minus(from), p.Minus(from)
	share, all := Dot(whole, part), Dot(whole, whole)
	switch {
	case share.Sign() <= 0:
		return Distance(from, p)
	case share.Order(all) >= 0:
		return Distance(to, p)
	}
	across := whole.x.Times(part.y).Minus(whole.y.Times(part.x))
	length := sumOf(whole.x.Times(whole.x), whole.y.Times(whole.y))
	return exact.NewRatio(across.Times(across), length.Times(part.w).Times(part.w))
}

// Minus returns the way from q to p.
func (p Place) Minus(q Place) Place {
	return Place{
		x: p.x.Times(q.w).Minus(q.x.Times(p.w)),
		y: p.y.Times(q.w).Minus(q.y.Times(p.w)),
		w: p.w.Times(q.w),
	}
}

// Dot returns the scalar product of two vectors.
func Dot(p, q Place) exact.Ratio {
	return exact.NewRatio(sumOf(p.x.Times(q.x), p.y.Times(q.y)), p.w.Times(q.w))
}
