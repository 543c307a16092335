// Package number computes exactly with rational numbers, spans of them, surds and places, and has shares, drawn orders,
// equations and binomials. It is layer 1: see shared/doc/01-number.md.
package number

import (
	"baulk/api"
	"baulk/errno"
	"baulk/exact"
)

// Limits of equations and sets.
const (
	MaxEquations = 24
	MaxSet       = 64
)

// IsName reports whether a text is a name.
func IsName(s string) bool {
	if s == "" || len(s) > api.MaxName {
		return false
	}
	for i, r := range s {
		if !isLetter(r) && (i == 0 || r != '_' && !isDigit(r)) {
			return false
		}
	}
	return true
}

func isLetter(r rune) bool { return 'A' <= r && r <= 'Z' || 'a' <= r && r <= 'z' }

func isDigit(r rune) bool { return '0' <= r && r <= '9' }

// Check returns the first error of a number, or OK.
func Check(a api.Rat) api.Errno {
	_, e := exact.Read(a)
	return e
}

// Of returns the quotient of two integers.
func Of(num, den int) (api.Rat, api.Errno) {
	if den == 0 {
		return "", api.ErrZero
	}
	return exact.Write(exact.NewFraction(exact.NewInt(num), exact.NewInt(den)))
}

// Add returns the sum.
func Add(a, b api.Rat) (api.Rat, api.Errno) { return computed(a, b, exact.Fraction.Plus) }

// Sub returns the difference.
func Sub(a, b api.Rat) (api.Rat, api.Errno) { return computed(a, b, exact.Fraction.Minus) }

// Mul returns the product.
func Mul(a, b api.Rat) (api.Rat, api.Errno) { return computed(a, b, exact.Fraction.Times) }

// Div returns the quotient.
func Div(a, b api.Rat) (api.Rat, api.Errno) {
	x, y, e := readPair(a, b)
	if e != api.OK {
		return "", e
	}
	if y.IsZero() {
		return "", api.ErrZero
	}
	return exact.Write(x.Over(y))
}

// Order compares two numbers.
func Order(a, b api.Rat) (int, api.Errno) {
	x, y, e := readPair(a, b)
	if e != api.OK {
		return 0, e
	}
	return x.Order(y), api.OK
}

// Floor returns the greatest integer that is not above a number.
func Floor(a api.Rat) (api.Rat, api.Errno) {
	x, e := exact.Read(a)
	if e != api.OK {
		return "", e
	}
	return exact.Write(exact.NewWhole(x.Floor()))
}

// computed returns the result of an operation that has one for all numbers.
func computed(a, b api.Rat, operation func(x, y exact.Fraction) exact.Fraction) (api.Rat, api.Errno) {
	x, y, e := readPair(a, b)
	if e != api.OK {
		return "", e
	}
	return exact.Write(operation(x, y))
}

// readPair returns two numbers, or the error of the first one with one.
func readPair(a, b api.Rat) (exact.Fraction, exact.Fraction, api.Errno) {
	x, first := exact.Read(a)
	y, second := exact.Read(b)
	return x, y, errno.First(first, second)
}
