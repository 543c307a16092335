package number

import (
	"baulk/api"
	"baulk/errno"
	"baulk/exact"
)

// CheckSurd returns the first error of a surd, or OK.
func CheckSurd(s api.Surd) api.Errno {
	_, e := exact.ReadSurd(s)
	return e
}

// SurdSign returns the sign of a surd.
func SurdSign(s api.Surd) (int, api.Errno) {
	x, e := exact.ReadSurd(s)
	if e != api.OK {
		return 0, e
	}
	return x.Sign(), api.OK
}

// SurdOrder compares two surds.
func SurdOrder(s, t api.Surd) (int, api.Errno) {
	x, y, e := readSurds(s, t)
	if e != api.OK {
		return 0, e
	}
	return x.Order(y), api.OK
}

// SurdSpan returns a span that contains a surd.
func SurdSpan(s api.Surd) (api.Span, api.Errno) {
	x, e := exact.ReadSurd(s)
	if e != api.OK {
		return api.Span{}, e
	}
	return writeSpan(pointSpan(x.A).plus(pointSpan(x.B).times(rootSpan(x.D))))
}

// SurdAdd returns the sum of two surds.
func SurdAdd(s, t api.Surd) (api.Surd, api.Errno) { return computedSurd(s, t, exact.Surd.Plus) }

// SurdMul returns the product of two surds.
func SurdMul(s, t api.Surd) (api.Surd, api.Errno) { return computedSurd(s, t, exact.Surd.Times) }

// computedSurd returns the result of an operation on two surds with the same root.
func computedSurd(s, t api.Surd, operation func(x, y exact.Surd) exact.Surd) (api.Surd, api.Errno) {
	x, y, e := readSurds(s, t)
	if e != api.OK {
		return api.Surd{}, e
	}
	if x.D.Order(y.D) != 0 {
		return api.Surd{}, api.ErrShape
	}
	return exact.WriteSurd(operation(x, y))
}

// readSurds returns two surds, or the error of the first one with one.
func readSurds(s, t api.Surd) (exact.Surd, exact.Surd, api.Errno) {
	x, first := exact.ReadSurd(s)
	y, second := exact.ReadSurd(t)
	return x, y, errno.First(first, second)
}
