package exact

import "cmp"

// Ratio is a rational number as a fraction that is not reduced, which would take most of the time where numbers are only
// compared; its zero value is 0.
type Ratio struct {
	top    Int
	bottom Int // above 0, except in the zero value
}

// NewRatio returns the quotient of two integers; 0 if the second one is 0.
func NewRatio(top, bottom Int) Ratio {
	switch bottom.Sign() {
	case 0:
		return Ratio{}
	case -1:
		return Ratio{top: top.Negated(), bottom: bottom.Negated()}
	}
	return Ratio{top: top, bottom: bottom}
}

// Ratio returns a fraction as one that may be compared with those that are not reduced.
func (a Fraction) Ratio() Ratio { return Ratio{top: a.top, bottom: a.bottom} }

// Top returns the numerator, which has the sign of the number.
func (a Ratio) Top() Int { return a.top }

// Bottom returns the denominator, which is above 0.
func (a Ratio) Bottom() Int {
	if a.bottom.Sign() == 0 {
		return NewInt(1)
	}
	return a.bottom
}

// Fraction returns the number in lowest terms.
func (a Ratio) Fraction() Fraction { return NewFraction(a.top, a.bottom) }

// Sign returns -1, 0 or 1.
func (a Ratio) Sign() int { return a.top.Sign() }

// Order returns -1, 0 or 1 if a is less than, equal to, or greater than b.
func (a Ratio) Order(b Ratio) int {
	if a.Sign() != b.Sign() || a.Sign() == 0 {
		return cmp.Compare(a.Sign(), b.Sign())
	}
	return a.top.Times(b.bottom).Order(b.top.Times(a.bottom))
}
