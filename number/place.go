package number

import (
	"baulk/api"
	"baulk/errno"
	"baulk/exact"
)

// place is a place whose numbers have any size.
type place struct {
	x exact.Fraction
	y exact.Fraction
}

// CheckPlace returns the first error of a place, or OK.
func CheckPlace(p api.Place) api.Errno {
	_, e := readPlace(p)
	return e
}

// Dot returns the scalar product of two vectors.
func Dot(a, b api.Place) (api.Rat, api.Errno) { return computedPlace(a, b, place.dot) }

// Cross returns the vector product of two vectors.
func Cross(a, b api.Place) (api.Rat, api.Errno) { return computedPlace(a, b, place.cross) }

// Square returns the square of a vector.
func Square(a api.Place) (api.Rat, api.Errno) { return Dot(a, a) }

// computedPlace returns the result of an operation on two places.
func computedPlace(a, b api.Place, operation func(p, q place) exact.Fraction) (api.Rat, api.Errno) {
	p, q, e := readPlaces(a, b)
	if e != api.OK {
		return "", e
	}
	return exact.Write(operation(p, q))
}

// readPlaces returns two places, or the error of the first one with one.
func readPlaces(a, b api.Place) (place, place, api.Errno) {
	p, first := readPlace(a)
	if a == b { // as it is for a square
		return p, p, first
	}
	q, second := readPlace(b)
	return p, q, errno.First(first, second)
}

// readPlace returns a place, or its error.
func readPlace(p api.Place) (place, api.Errno) {
	x, y, e := readPair(p.X, p.Y)
	return place{x: x, y: y}, e
}

func (p place) dot(q place) exact.Fraction { return p.x.Times(q.x).Plus(p.y.Times(q.y)) }

func (p place) cross(q place) exact.Fraction { return p.x.Times(q.y).Minus(p.y.Times(q.x)) }
