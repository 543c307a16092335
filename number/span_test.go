package number_test

import (
	"math/big"
	"math/rand"
	"testing"

	"baulk/api"
	"baulk/number"
)

// Tests of P1.2 (spans and roots).

func TestCheckSpan(t *testing.T) {
	for _, row := range []struct {
		s api.Span
		e api.Errno
	}{
		{span("1", "2"), api.OK}, {span("1", "1"), api.OK}, {span("-1/2", "-1/3"), api.OK}, {span("-"+nines(600), nines(600)), api.OK},
		{span("2", "1"), api.ErrOrder}, {span("-1/3", "-1/2"), api.ErrOrder}, {api.Span{}, api.ErrForm}, {span("", "1"), api.ErrForm},
		{span("1", "2/4"), api.ErrForm}, {span(large, "x"), api.ErrLarge}, {span("x", large), api.ErrForm}, {span("1", large), api.ErrLarge},
	} {
		wantError(t, "CheckSpan", number.CheckSpan(row.s), row.e)
	}
}

func TestSpanArithmetic(t *testing.T) {
	for _, row := range []struct {
		a, b, sum, gap, product, quotient api.Span
		e                                 api.Errno
	}{
		{span("-2", "3"), span("1", "4"), span("-1", "7"), span("-6", "2"), span("-8", "12"), span("-2", "3"), api.OK},
		{span("2", "3"), span("-2", "-1"), span("0", "2"), span("3", "5"), span("-6", "-2"), span("-3", "-1"), api.OK},
		{span("-3", "-2"), span("-5", "-4"), span("-8", "-6"), span("1", "3"), span("8", "15"), span("2/5", "3/4"), api.OK},
		{span("0", "0"), span("1/2", "3"), span("1/2", "3"), span("-3", "-1/2"), span("0", "0"), span("0", "0"), api.OK},
		{span("1/2", "1/2"), span("1/3", "1/3"), span("5/6", "5/6"), span("1/6", "1/6"), span("1/6", "1/6"), span("3/2", "3/2"), api.OK},
		{span("-2", "3"), span("-5", "4"), span("-7", "7"), span("-6", "8"), span("-15", "12"), api.Span{}, api.ErrZero},
		{span("1", "2"), span("0", "4"), span("1", "6"), span("-3", "2"), span("0", "8"), api.Span{}, api.ErrZero},
		{span("1", "2"), span("-4", "0"), span("-3", "2"), span("1", "6"), span("-8", "0"), api.Span{}, api.ErrZero},
		{span("1", "2"), span("0", "0"), span("1", "2"), span("1", "2"), span("0", "0"), api.Span{}, api.ErrZero},
	} {
		want(t, "Plus", both(number.Plus(row.a, row.b)), row.sum, api.OK)
		want(t, "Minus", both(number.Minus(row.a, row.b)), row.gap, api.OK)
		want(t, "Times", both(number.Times(row.a, row.b)), row.product, api.OK)
		want(t, "Over", both(number.Over(row.a, row.b)), row.quotient, row.e)
	}
}

func TestErrorsOfSpans(t *testing.T) {
	type operation = func(a, b api.Span) (api.Span, api.Errno)
	for name, f := range map[string]operation{"Plus": number.Plus, "Minus": number.Minus, "Times": number.Times, "Over": number.Over} {
		want(t, name, both(f(span("2", "1"), span("", ""))), api.Span{}, api.ErrOrder)
		want(t, name, both(f(span("", ""), span("2", "1"))), api.Span{}, api.ErrForm)
		want(t, name, both(f(span("1", "2"), span("2", "1"))), api.Span{}, api.ErrOrder)
		want(t, name, both(f(span("1", "2"), span(large, "1"))), api.Span{}, api.ErrLarge)
		want(t, name, both(f(span("x", "2"), span("0", "0"))), api.Span{}, api.ErrForm)
	}
	want(t, "Plus with a large end", both(number.Plus(span("0", nines(600)), span("1", "1"))), api.Span{}, api.ErrLarge)
	want(t, "Minus with a large beginning", both(number.Minus(span("-"+nines(600), "0"), span("1", "1"))), api.Span{}, api.ErrLarge)
	want(t, "Times with a large end", both(number.Times(span("0", ten(300)), span("0", ten(300)))), api.Span{}, api.ErrLarge)
	want(t, "Over with a large beginning", both(number.Over(span("1/"+ten(300), "1"), span("1", ten(300)))), api.Span{}, api.ErrLarge)
	want(t, "Times up to 600 digits", both(number.Times(span("-"+ten(300), "0"), span("0", ten(299)))), span("-"+ten(599), "0"), api.OK)
}

func TestSpansAgainstLibrary(t *testing.T) {
	r := rand.New(rand.NewSource(12))
	for i := range 600 {
		digits := []int{2, 20, 300}[i%3]
		a, b := someSpanPair(r, digits), someSpanPair(r, digits)
		x, y := span(text(a[0]), text(a[1])), span(text(b[0]), text(b[1]))
		low, high := extremes(a, b, (*big.Rat).Mul)
		want(t, "Times", both(number.Times(x, y)), span(low, high), api.OK)
		if b[0].Sign() > 0 || b[1].Sign() < 0 {
			low, high = extremes(a, b, (*big.Rat).Quo)
			want(t, "Over", both(number.Over(x, y)), span(low, high), api.OK)
		}
		low, high = extremes(a, b, (*big.Rat).Add)
		want(t, "Plus", both(number.Plus(x, y)), span(low, high), api.OK)
		low, high = extremes(a, b, (*big.Rat).Sub)
		want(t, "Minus", both(number.Minus(x, y)), span(low, high), api.OK)
	}
}

func someSpanPair(r *rand.Rand, n int) [2]*big.Rat {
	low, high := someSpan(r, n)
	return [2]*big.Rat{low, high}
}

// extremes returns the least and the greatest result of an operation with the ends of two spans.
func extremes(a, b [2]*big.Rat, operation func(z, x, y *big.Rat) *big.Rat) (api.Rat, api.Rat) {
	var least, most *big.Rat
	for _, x := range a {
		for _, y := range b {
			z := operation(new(big.Rat), x, y)
			if least == nil || z.Cmp(least) < 0 {
				least = z
			}
			if most == nil || z.Cmp(most) > 0 {
				most = z
			}
		}
	}
	return text(least), text(most)
}

func TestRoot(t *testing.T) {
	for _, row := range []struct {
		a, low, high api.Rat
		e            api.Errno
	}{
		{"25/4", "5/2", "5/2", api.OK}, {"3", "433/250", "1733/1000", api.OK}, {"0", "0", "0", api.OK}, {"1", "1", "1", api.OK}, {"2", "707/500", "283/200", api.OK},
		{"1/49", "1/7", "1/7", api.OK}, {"1/2", "707/1000", "177/250", api.OK}, {"4/3", "577/500", "231/200", api.OK}, {"3/4", "433/500", "867/1000", api.OK},
		{"1/10000000", "0", "1/1000", api.OK}, {"1/1000000", "1/1000", "1/1000", api.OK}, {"999999/1000000", "999/1000", "1", api.OK},
		{"1000001/1000000", "1", "1001/1000", api.OK}, {"1000002/1000000", "", "", api.ErrForm}, {ten(598), ten(299), ten(299), api.OK},
		{"1/" + ten(598), "1/" + ten(299), "1/" + ten(299), api.OK}, {"1/" + nines(600), "0", "1/1000", api.OK},
		{"-1", "", "", api.ErrRange}, {"-1/" + nines(600), "", "", api.ErrRange}, {"x", "", "", api.ErrForm}, {"-2/4", "", "", api.ErrForm}, {"-" + large, "", "", api.ErrLarge},
	} {
		want(t, "Root of "+string(row.a), both(number.Root(row.a)), span(row.low, row.high), row.e)
	}
}

// A root that is no number lies strictly between its two thousandths; one that is a number is found.
func TestRootsBySquares(t *testing.T) {
	r := rand.New(rand.NewSource(13))
	for i := range 600 {
		x := someNumber(r, []int{4, 40, 600}[i%3])
		x.Abs(x)
		a := text(x)
		s, e := number.Root(a)
		wantError(t, "Root of "+string(a), e, api.OK)
		low, high := value(t, s.Low), value(t, s.High)
		if s.Low == s.High {
			want(t, "the square of a root", both(text(new(big.Rat).Mul(low, low)), api.OK), a, api.OK)
			continue
		}
		if new(big.Rat).Sub(high, low).Cmp(big.NewRat(1, 1000)) != 0 || !new(big.Rat).Mul(low, big.NewRat(1000, 1)).IsInt() {
			t.Errorf("Root of %s: %v to %v", a, low, high)
		}
		if new(big.Rat).Mul(low, low).Cmp(x) > 0 || new(big.Rat).Mul(high, high).Cmp(x) <= 0 {
			t.Errorf("Root of %s: not between %v and %v", a, low, high)
		}
	}
	for i := range 300 {
		x := someNumber(r, []int{4, 40, 300}[i%3])
		x.Abs(x)
		want(t, "Root of a square", both(number.Root(text(new(big.Rat).Mul(x, x)))), span(text(x), text(x)), api.OK)
	}
}
