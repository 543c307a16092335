package exact

import "cmp"

// Surd is the number A + B times the root of D, which is not negative; its zero value is 0.
type Surd struct {
	A Fraction
	B Fraction
	D Fraction
}

// Plus returns the sum with a surd of the same root.
func (s Surd) Plus(t Surd) Surd { return Surd{A: s.A.Plus(t.A), B: s.B.Plus(t.B), D: s.D} }

// Minus returns the difference from a surd of the same root.
func (s Surd) Minus(t Surd) Surd { return s.Plus(t.Scaled(Whole(-1))) }

// Times returns the product with a surd of the same root.
func (s Surd) Times(t Surd) Surd {
	return Surd{
		A: s.A.Times(t.A).Plus(s.B.Times(t.B).Times(s.D)),
		B: s.A.Times(t.B).Plus(s.B.Times(t.A)),
		D: s.D,
	}
}

// Scaled returns the product with a number.
func (s Surd) Scaled(x Fraction) Surd { return Surd{A: s.A.Times(x), B: s.B.Times(x), D: s.D} }

// rootSign returns the sign of the part with the root.
func (s Surd) rootSign() int { return s.B.Sign() * s.D.Sign() }

// rootSquare returns the square of the part with the root.
func (s Surd) rootSquare() Fraction { return s.B.Times(s.B).Times(s.D) }

// Sign returns -1, 0 or 1.
func (s Surd) Sign() int {
	return sumSign(s.A.Sign(), s.rootSign(), func() int {
		return s.A.Times(s.A).Order(s.rootSquare())
	})
}

// Order returns -1, 0 or 1 if s is less than, equal to, or greater than t, which may have another root, by the sign of
// p + q - r, where p is a number and q and r are the parts with the roots.
func (s Surd) Order(t Surd) int {
	p := s.A.Minus(t.A)
	roots := sumSign(s.rootSign(), -t.rootSign(), func() int {
		return s.rootSquare().Order(t.rootSquare())
	})
	return sumSign(p.Sign(), roots, func() int {
		// The square of q - r is a surd again: q and r have a product with the root of both D.
		rest := p.Times(p).Minus(s.rootSquare()).Minus(t.rootSquare())
		product := s.B.Times(t.B).Times(Whole(2))
		return Surd{A: rest, B: product, D: s.D.Times(t.D)}.Sign()
	})
}

// sumSign returns the sign of x + y by the signs of x and of y, and, if these are opposite, by the order of their
// squares.
func sumSign(x, y int, squares func() int) int {
	if x*y < 0 {
		return x * squares()
	}
	return cmp.Compare(x+y, 0)
}
