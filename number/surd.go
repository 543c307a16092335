package number

import (
	"cmp"

	"baulk/api"
	"baulk/errno"
	"baulk/exact"
)

// surd is a surd whose numbers have any size.
type surd struct {
	a exact.Fraction
	b exact.Fraction
	d exact.Fraction
}

// CheckSurd returns the first error of a surd, or OK.
func CheckSurd(s api.Surd) api.Errno {
	_, e := readSurd(s)
	return e
}

// SurdSign returns the sign of a surd.
func SurdSign(s api.Surd) (int, api.Errno) {
	x, e := readSurd(s)
	if e != api.OK {
		return 0, e
	}
	return x.sign(), api.OK
}

// SurdOrder compares two surds.
func SurdOrder(s, t api.Surd) (int, api.Errno) {
	x, y, e := readSurds(s, t)
	if e != api.OK {
		return 0, e
	}
	return x.order(y), api.OK
}

// SurdSpan returns a span that contains a surd.
func SurdSpan(s api.Surd) (api.Span, api.Errno) {
	x, e := readSurd(s)
	if e != api.OK {
		return api.Span{}, e
	}
	return writeSpan(pointSpan(x.a).plus(pointSpan(x.b).times(rootSpan(x.d))))
}

// SurdAdd returns the sum of two surds.
func SurdAdd(s, t api.Surd) (api.Surd, api.Errno) { return computedSurd(s, t, surd.plus) }

// SurdMul returns the product of two surds.
func SurdMul(s, t api.Surd) (api.Surd, api.Errno) { return computedSurd(s, t, surd.times) }

// computedSurd returns the result of an operation on two surds with the same root.
func computedSurd(s, t api.Surd, operation func(x, y surd) surd) (api.Surd, api.Errno) {
	x, y, e := readSurds(s, t)
	if e != api.OK {
		return api.Surd{}, e
	}
	if x.d.Order(y.d) != 0 {
		return api.Surd{}, api.ErrShape
	}
	return writeSurd(operation(x, y))
}

// readSurds returns two surds, or the error of the first one with one.
func readSurds(s, t api.Surd) (surd, surd, api.Errno) {
	x, first := readSurd(s)
	y, second := readSurd(t)
	return x, y, errno.First(first, second)
}

// readSurd returns a surd, or its error.
func readSurd(s api.Surd) (surd, api.Errno) {
	a, first := exact.Read(s.A)
	b, second := exact.Read(s.B)
	d, third := exact.Read(s.D)
	if e := errno.First(first, second, third); e != api.OK {
		return surd{}, e
	}
	if d.Sign() < 0 {
		return surd{}, api.ErrRange
	}
	return surd{a: a, b: b, d: d}, api.OK
}

// writeSurd returns a surd, or ErrLarge.
func writeSurd(s surd) (api.Surd, api.Errno) {
	a, first := exact.Write(s.a)
	b, second := exact.Write(s.b)
	d, third := exact.Write(s.d)
	if e := errno.First(first, second, third); e != api.OK {
		return api.Surd{}, e
	}
	return api.Surd{A: a, B: b, D: d}, api.OK
}

// plus returns the sum with a surd of the same root.
func (s surd) plus(t surd) surd { return surd{a: s.a.Plus(t.a), b: s.b.Plus(t.b), d: s.d} }

// times returns the product with a surd of the same root.
func (s surd) times(t surd) surd {
	return surd{
		a: s.a.Times(t.a).Plus(s.b.Times(t.b).Times(s.d)),
		b: s.a.Times(t.b).Plus(s.b.Times(t.a)),
		d: s.d,
	}
}

// rootSign returns the sign of the part with the root.
func (s surd) rootSign() int { return s.b.Sign() * s.d.Sign() }

// rootSquare returns the square of the part with the root.
func (s surd) rootSquare() exact.Fraction { return s.b.Times(s.b).Times(s.d) }

// sign returns -1, 0 or 1.
func (s surd) sign() int {
	return sumSign(s.a.Sign(), s.rootSign(), func() int {
		return s.a.Times(s.a).Order(s.rootSquare())
	})
}

// order returns -1, 0 or 1 if s is less than, equal to, or greater than t, by the sign of p + q - r, where p is a number
// and q and r are the parts with the roots.
func (s surd) order(t surd) int {
	p := s.a.Minus(t.a)
	roots := sumSign(s.rootSign(), -t.rootSign(), func() int {
		return s.rootSquare().Order(t.rootSquare())
	})
	return sumSign(p.Sign(), roots, func() int {
		// The square of q - r is a surd again: q and r have a product with the root of both D.
		rest := p.Times(p).Minus(s.rootSquare()).Minus(t.rootSquare())
		product := s.b.Times(t.b).Times(exact.Whole(2))
		return surd{a: rest, b: product, d: s.d.Times(t.d)}.sign()
	})
}

// sumSign returns the sign of x + y by the signs of x and of y, and, if these are opposite, by the order of their
// squares.
func sumSign(x, y int, squares func() int) int {
	if x*y < 0 {
		return x * squares()
	}
	return cmp.Compare(x+y, 0)
}
