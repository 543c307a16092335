package aim

import (
	"baulk/api"
	"baulk/exact"
	"baulk/plane"
)

// vector is a vector of whole numbers.
type vector struct {
	x exact.Int
	y exact.Int
}

// whole returns a vector times a number above 0 that makes its coordinates whole, and this number.
func whole(p plane.Place) (vector, exact.Int) {
	x, y, scale := p.Whole()
	return vector{x: x, y: y}, scale
}

// between returns the way from one point to another one.
func between(from, to api.Point) vector {
	return vector{x: exact.NewInt(to.X - from.X), y: exact.NewInt(to.Y - from.Y)}
}

func (v vector) dot(w vector) exact.Int { return v.x.Times(w.x).Plus(v.y.Times(w.y)) }

func (v vector) cross(w vector) exact.Int { return v.x.Times(w.y).Minus(v.y.Times(w.x)) }

func (v vector) times(n exact.Int) vector { return vector{x: v.x.Times(n), y: v.y.Times(n)} }

// heading is a direction whose coordinates are surds of whole numbers with one root.
type heading struct {
	x exact.Surd
	y exact.Surd
}

// headed returns a direction of whole numbers, as surds with a root.
func headed(v vector, root exact.Fraction) heading {
	return heading{
		x: exact.Surd{A: exact.NewWhole(v.x), D: root},
		y: exact.Surd{A: exact.NewWhole(v.y), D: root},
	}
}

func (h heading) dot(v vector) exact.Surd {
	return h.x.Scaled(exact.NewWhole(v.x)).Plus(h.y.Scaled(exact.NewWhole(v.y)))
}

func (h heading) cross(v vector) exact.Surd { return h.dot(vector{x: v.y, y: v.x.Negated()}) }

// changed returns the direction whose coordinates are what operations make of those of h.
func (h heading) changed(x, y func(exact.Surd) exact.Surd) heading {
	return heading{x: x(h.x), y: y(h.y)}
}

func (h heading) times(s exact.Surd) heading { return h.changed(s.Times, s.Times) }

func (h heading) plus(k heading) heading { return h.changed(k.x.Plus, k.y.Plus) }

// part is a surd of whole numbers, divided by a whole number above 0.
type part struct {
	top    exact.Surd
	bottom exact.Int
}

// quotient returns a whole number divided by a surd above 0, as the chapter defines it.
func quotient(n exact.Int, s exact.Surd) part {
	conjugate := exact.Surd{A: s.A, B: s.B.Negated(), D: s.D}
	top, bottom := conjugate.Scaled(exact.NewWhole(n)), s.Times(conjugate).A.Top()
	switch bottom.Sign() {
	case 0:
		top, bottom = exact.Surd{A: exact.NewWhole(n), D: s.D}, s.A.Top().Times(exact.NewInt(2))
	case -1:
		top, bottom = top.Scaled(exact.Whole(-1)), bottom.Negated()
	}
	return part{top: top, bottom: bottom}
}

// Order returns -1, 0 or 1 if p is less than, equal to, or greater than a fraction.
func (p part) Order(r exact.Ratio) int {
	number := exact.Surd{A: exact.NewWhole(p.bottom.Times(r.Top()))}
	return p.top.Scaled(exact.NewWhole(r.Bottom())).Minus(number).Sign()
}
