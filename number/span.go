package number

import (
	"slices"

	"baulk/api"
	"baulk/errno"
	"baulk/exact"
)

// rootSteps is the number of steps of 1 in which roots that are no numbers are enclosed.
const rootSteps = 1000

// span is a span whose numbers have any size.
type span struct {
	low  exact.Fraction
	high exact.Fraction
}

// CheckSpan returns the first error of a span, or OK.
func CheckSpan(s api.Span) api.Errno {
	_, e := readSpan(s)
	return e
}

// Plus returns the sum of two spans.
func Plus(a, b api.Span) (api.Span, api.Errno) { return computedSpan(a, b, span.plus) }

// Minus returns the difference of two spans.
func Minus(a, b api.Span) (api.Span, api.Errno) { return computedSpan(a, b, span.minus) }

// Times returns the product of two spans.
func Times(a, b api.Span) (api.Span, api.Errno) { return computedSpan(a, b, span.times) }

// Over returns the quotient of two spans.
func Over(a, b api.Span) (api.Span, api.Errno) {
	x, y, e := readSpans(a, b)
	if e != api.OK {
		return api.Span{}, e
	}
	if y.low.Sign() <= 0 && y.high.Sign() >= 0 {
		return api.Span{}, api.ErrZero
	}
	return writeSpan(x.over(y))
}

// Root returns a span that contains the root of a number.
func Root(a api.Rat) (api.Span, api.Errno) {
	x, e := exact.Read(a)
	if e != api.OK {
		return api.Span{}, e
	}
	if x.Sign() < 0 {
		return api.Span{}, api.ErrRange
	}
	return writeSpan(rootSpan(x))
}

// computedSpan returns the result of an operation that has one for all spans.
func computedSpan(a, b api.Span, operation func(x, y span) span) (api.Span, api.Errno) {
	x, y, e := readSpans(a, b)
	if e != api.OK {
		return api.Span{}, e
	}
	return writeSpan(operation(x, y))
}

// readSpans returns two spans, or the error of the first one with one.
func readSpans(a, b api.Span) (span, span, api.Errno) {
	x, first := readSpan(a)
	y, second := readSpan(b)
	return x, y, errno.First(first, second)
}

// readSpan returns a span, or its error.
func readSpan(s api.Span) (span, api.Errno) {
	low, high, e := readPair(s.Low, s.High)
	if e != api.OK {
		return span{}, e
	}
	if low.Order(high) > 0 {
		return span{}, api.ErrOrder
	}
	return span{low: low, high: high}, api.OK
}

// writeSpan returns a span, or ErrLarge.
func writeSpan(s span) (api.Span, api.Errno) {
	low, first := exact.Write(s.low)
	high, second := exact.Write(s.high)
	if e := errno.First(first, second); e != api.OK {
		return api.Span{}, e
	}
	return api.Span{Low: low, High: high}, api.OK
}

// pointSpan returns the span of a single number.
func pointSpan(x exact.Fraction) span { return span{low: x, high: x} }

func (a span) plus(b span) span { return span{low: a.low.Plus(b.low), high: a.high.Plus(b.high)} }

func (a span) minus(b span) span { return span{low: a.low.Minus(b.high), high: a.high.Minus(b.low)} }

func (a span) times(b span) span { return a.hull(b, exact.Fraction.Times) }

// over returns the quotient by a span without 0.
func (a span) over(b span) span { return a.hull(b, exact.Fraction.Over) }

// hull returns the span of the results of an operation whose extremes are at ends of both spans.
func (a span) hull(b span, operation func(x, y exact.Fraction) exact.Fraction) span {
	results := []exact.Fraction{
		operation(a.low, b.low),
		operation(a.low, b.high),
		operation(a.high, b.low),
		operation(a.high, b.high),
	}
	return span{
		low:  slices.MinFunc(results, exact.Fraction.Order),
		high: slices.MaxFunc(results, exact.Fraction.Order),
	}
}

// rootSpan returns the root of a number from 0 on.
func rootSpan(x exact.Fraction) span {
	if root, ok := x.Root(); ok {
		return pointSpan(root)
	}
	// The root of the integer part has the same integer part as the root.
	steps := exact.NewInt(rootSteps)
	low := x.Times(exact.Whole(rootSteps * rootSteps)).Floor().Root()
	high := low.Plus(exact.NewInt(1))
	return span{low: exact.NewFraction(low, steps), high: exact.NewFraction(high, steps)}
}
