package exact

// Fraction is a rational number in lowest terms; its zero value is 0.
type Fraction struct {
	top    Int
	bottom Int // above 0, except in the zero value
}

// NewFraction returns the quotient of two integers; 0 if the second one is 0.
func NewFraction(top, bottom Int) Fraction {
	if bottom.Sign() == 0 {
		return Fraction{}
	}
	common := top.CommonDivisor(bottom)
	if bottom.Sign() < 0 {
		common = common.Negated()
	}
	if common.Order(NewInt(1)) == 0 {
		return Fraction{top: top, bottom: bottom}
	}
	top, _ = top.Over(common)
	bottom, _ = bottom.Over(common)
	return Fraction{top: top, bottom: bottom}
}

// Whole returns an integer as a fraction.
func Whole(n int) Fraction { return NewWhole(NewInt(n)) }

// NewWhole returns an integer of any size as a fraction.
func NewWhole(n Int) Fraction { return Fraction{top: n, bottom: NewInt(1)} }

// Top returns the numerator, which has the sign of the fraction.
func (a Fraction) Top() Int { return a.top }

// Bottom returns the denominator, which is above 0.
func (a Fraction) Bottom() Int {
	if a.bottom.Sign() == 0 {
		return NewInt(1)
	}
	return a.bottom
}

// Sign returns -1, 0 or 1.
func (a Fraction) Sign() int { return a.top.Sign() }

// IsZero reports whether the fraction is 0.
func (a Fraction) IsZero() bool { return a.Sign() == 0 }

// IsWhole reports whether the fraction is an integer.
func (a Fraction) IsWhole() bool { return a.Bottom().Order(NewInt(1)) == 0 }

// Order returns -1, 0 or 1 if a is less than, equal to, or greater than b.
func (a Fraction) Order(b Fraction) int {
	return a.top.Times(b.Bottom()).Order(b.top.Times(a.Bottom()))
}

// Negated returns -a.
func (a Fraction) Negated() Fraction { return Fraction{top: a.top.Negated(), bottom: a.bottom} }

// Plus returns the sum.
func (a Fraction) Plus(b Fraction) Fraction {
	top := a.top.Times(b.Bottom()).Plus(b.top.Times(a.Bottom()))
	return NewFraction(top, a.Bottom().Times(b.Bottom()))
}

// Minus returns the difference.
func (a Fraction) Minus(b Fraction) Fraction { return a.Plus(b.Negated()) }

// Times returns the product.
func (a Fraction) Times(b Fraction) Fraction {
	return NewFraction(a.top.Times(b.top), a.Bottom().Times(b.Bottom()))
}

// Over returns the quotient; 0 if b is 0.
func (a Fraction) Over(b Fraction) Fraction {
	return NewFraction(a.top.Times(b.Bottom()), a.Bottom().Times(b.top))
}

// Floor returns the greatest integer that is not above a.
func (a Fraction) Floor() Int {
	floor, _ := a.top.Over(a.Bottom())
	return floor
}

// Root returns the number from 0 on whose square is a, and whether there is one.
func (a Fraction) Root() (Fraction, bool) {
	// In lowest terms only a square over a square is one.
	top, bottom := a.top.Root(), a.Bottom().Root()
	if top.Times(top).Order(a.top) != 0 || bottom.Times(bottom).Order(a.Bottom()) != 0 {
		return Fraction{}, false
	}
	return Fraction{top: top, bottom: bottom}, true
}
