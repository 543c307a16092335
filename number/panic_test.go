package number_test

import (
	"math"
	"slices"
	"testing"

	"baulk/api"
	"baulk/number"
)

// Tests of P1: every function terminates and never panics, and what stands beside an error is the zero value.

// zeroBesideError reports a result beside an error.
func zeroBesideError[T comparable](t *testing.T, what string, got pair[T]) {
	t.Helper()
	var zero T
	if got.err != api.OK && got.value != zero {
		t.Errorf("%s: %v beside the error %d", what, got.value, got.err)
	}
}

func TestNumbersOfAnyForm(t *testing.T) {
	odd := []api.Rat{"", "0", "-0", "1", "-1", "1/2", "-1/2", "1/0", "0/0", "/", "-", "2/4", "x", "\xff\xfe", "\x00", nines(600), "-" + nines(600), "1/" + nines(600),
		"-" + ten(599) + "/" + nines(600), large, large + "/" + large, nines(20000) + "/7"}
	for _, a := range odd {
		number.IsName(string(a))
		number.Check(a)
		zeroBesideError(t, "Floor", both(number.Floor(a)))
		zeroBesideError(t, "Root", both(number.Root(a)))
		for _, b := range odd {
			zeroBesideError(t, "Add", both(number.Add(a, b)))
			zeroBesideError(t, "Sub", both(number.Sub(a, b)))
			zeroBesideError(t, "Mul", both(number.Mul(a, b)))
			zeroBesideError(t, "Div", both(number.Div(a, b)))
			zeroBesideError(t, "Order", both(number.Order(a, b)))
			zeroBesideError(t, "Square", both(number.Square(place(a, b))))
			number.CheckSpan(span(a, b))
			number.CheckPlace(place(a, b))
			solution, e := number.Solve(matrix{{a}}, []api.Rat{b})
			if e != api.OK && len(solution) != 0 {
				t.Errorf("Solve: %v beside the error %d", solution, e)
			}
		}
	}
}

func TestStructuresOfAnyForm(t *testing.T) {
	odd := []api.Rat{"", "0", "-1/3", "2/4", nines(600), "-1/" + nines(600), large}
	for i := range len(odd) * len(odd) * len(odd) {
		a, b, c := odd[i%7], odd[i/7%7], odd[i/49]
		s, u := surd(a, b, c), surd(c, a, b)
		zeroBesideError(t, "SurdSign", both(number.SurdSign(s)))
		zeroBesideError(t, "SurdSpan", both(number.SurdSpan(s)))
		for _, other := range []api.Surd{u, surd("1", a, c), {}} {
			zeroBesideError(t, "SurdOrder", both(number.SurdOrder(s, other)))
			zeroBesideError(t, "SurdAdd", both(number.SurdAdd(s, other)))
			zeroBesideError(t, "SurdMul", both(number.SurdMul(s, other)))
		}
		zeroBesideError(t, "Dot", both(number.Dot(place(a, b), place(b, c))))
		zeroBesideError(t, "Cross", both(number.Cross(place(a, b), place(b, c))))
		for _, f := range []func(a, b api.Span) (api.Span, api.Errno){number.Plus, number.Minus, number.Times, number.Over} {
			zeroBesideError(t, "an operation of spans", both(f(span(a, b), span(b, c))))
			zeroBesideError(t, "an operation of spans", both(f(span("1", "2"), span(b, c))))
		}
		number.Solve(matrix{{a, b}, {c, a}}, []api.Rat{b, c})
	}
}

func TestIntegersOfAnySize(t *testing.T) {
	odd := []int{math.MinInt, math.MinInt + 1, -1, 0, 1, 2, 64, 65, 256, 257, 2147483646, 2147483647, math.MaxInt - 1, math.MaxInt}
	for _, a := range odd {
		for _, b := range odd {
			zeroBesideError(t, "Of", both(number.Of(a, b)))
			zeroBesideError(t, "Binomial", both(number.Binomial(a, b)))
			number.Draw(a, b)
			number.Shares(a, []int{b, a})
			number.Shares(b, slices.Repeat([]int{a}, 300))
		}
		number.Shares(a, nil)
	}
}
