package exact

import (
	"strings"

	"baulk/api"
	"baulk/errno"
)

// MaxBits is the number of binary digits of the greatest numerators and denominators of package api: 10 to the power of
// MaxDigits is below 2 to the power of MaxBits.
const MaxBits = api.MaxDigits*10/3 + 1

// Read returns a number of package api, or its error.
func Read(a api.Rat) (Fraction, api.Errno) {
	top, bottom, slash := strings.Cut(string(a), "/")
	if !slash {
		bottom = "1"
	}
	if !isInteger(top) || slash && !isDenominator(bottom) {
		return Fraction{}, api.ErrForm
	}
	if isLarge(top) || isLarge(bottom) {
		return Fraction{}, api.ErrLarge
	}
	numerator, _ := ParseInt(top)
	denominator, _ := ParseInt(bottom)
	x := NewFraction(numerator, denominator)
	if x.Bottom().Order(denominator) != 0 {
		return Fraction{}, api.ErrForm
	}
	return x, api.OK
}

// Write returns a number of package api, or ErrLarge.
func Write(x Fraction) (api.Rat, api.Errno) {
	top, bottom := x.Top().String(), x.Bottom().String()
	switch {
	case isLarge(top) || isLarge(bottom):
		return "", api.ErrLarge
	case bottom == "1":
		return api.Rat(top), api.OK
	}
	return api.Rat(top + "/" + bottom), api.OK
}

// ReadSurd returns a surd of package api, or its error.
func ReadSurd(s api.Surd) (Surd, api.Errno) {
	a, first := Read(s.A)
	b, second := Read(s.B)
	d, third := Read(s.D)
	if e := errno.First(first, second, third, errno.If(d.Sign() < 0, api.ErrRange)); e != api.OK {
		return Surd{}, e
	}
	return Surd{A: a, B: b, D: d}, api.OK
}

// WriteSurd returns a surd of package api, or ErrLarge.
func WriteSurd(s Surd) (api.Surd, api.Errno) {
	a, first := Write(s.A)
	b, second := Write(s.B)
	d, third := Write(s.D)
	if e := errno.First(first, second, third); e != api.OK {
		return api.Surd{}, e
	}
	return api.Surd{A: a, B: b, D: d}, api.OK
}

// isInteger reports whether a text is that of a decimal integer.
func isInteger(s string) bool {
	digits, negative := strings.CutPrefix(s, "-")
	if digits == "0" {
		return !negative
	}
	return isPositive(digits)
}

// isDenominator reports whether a text is that of a decimal integer of at least 2.
func isDenominator(s string) bool { return s != "1" && isPositive(s) }

// isPositive reports whether a text is that of a decimal integer above 0.
func isPositive(s string) bool {
	return s != "" && s[0] != '0' && strings.Trim(s, "0123456789") == ""
}

// isLarge reports whether an integer has too many digits.
func isLarge(s string) bool { return len(strings.TrimPrefix(s, "-")) > api.MaxDigits }
