package number_test

import (
	"math/big"
	"math/rand"
	"slices"
	"strings"
	"testing"

	"baulk/api"
	"baulk/number"
)

// pair is a result with its error.
type pair[T any] struct {
	value T
	err   api.Errno
}

// both makes a pair of what a function returns.
func both[T any](value T, err api.Errno) pair[T] { return pair[T]{value, err} }

// want reports a result or an error that is not the wanted one.
func want[T comparable](t *testing.T, what string, got pair[T], value T, err api.Errno) {
	t.Helper()
	if got.value != value || got.err != err {
		t.Errorf("%s: got %v and the error %d, want %v and %d", what, got.value, got.err, value, err)
	}
}

// wantList is want for lists.
func wantList[T comparable](t *testing.T, what string, got pair[[]T], value []T, err api.Errno) {
	t.Helper()
	if !slices.Equal(got.value, value) || got.err != err {
		t.Errorf("%s: got %v and the error %d, want %v and %d", what, got.value, got.err, value, err)
	}
}

// wantError reports an error that is not the wanted one.
func wantError(t *testing.T, what string, got, wanted api.Errno) {
	t.Helper()
	if got != wanted {
		t.Errorf("%s: got the error %d, want %d", what, got, wanted)
	}
}

// nines is the greatest number with n digits, ten 10 to the power of n.
func nines(n int) api.Rat { return api.Rat(strings.Repeat("9", n)) }

func ten(n int) api.Rat { return api.Rat("1" + strings.Repeat("0", n)) }

// large is a number with one digit too many.
const large = api.Rat("1" + hundred + hundred + hundred + hundred + hundred + hundred)

const hundred = "0000000000000000000000000000000000000000000000000000000000000000000000000000000000000000000000000000"

// span, surd and place return what they say.
func span(low, high api.Rat) api.Span { return api.Span{Low: low, High: high} }

func surd(a, b, d api.Rat) api.Surd { return api.Surd{A: a, B: b, D: d} }

func place(x, y api.Rat) api.Place { return api.Place{X: x, Y: y} }

// text returns the text of a number of the library.
func text(x *big.Rat) api.Rat { return api.Rat(x.RatString()) }

// value returns the number of the library with a text.
func value(t *testing.T, a api.Rat) *big.Rat {
	t.Helper()
	x, ok := new(big.Rat).SetString(string(a))
	if !ok || text(x) != a {
		t.Fatalf("%q is no number", a)
	}
	return x
}

// tooLarge reports whether a number has too many digits.
func tooLarge(x *big.Rat) bool {
	return len(new(big.Int).Abs(x.Num()).String()) > api.MaxDigits || len(x.Denom().String()) > api.MaxDigits
}

// checked returns the result and the error for a number: its text, or ErrLarge.
func checked(x *big.Rat) (api.Rat, api.Errno) {
	if tooLarge(x) {
		return "", api.ErrLarge
	}
	return text(x), api.OK
}

// someInteger returns an integer with up to n digits.
func someInteger(r *rand.Rand, n int) *big.Int {
	limit := new(big.Int).Exp(big.NewInt(10), big.NewInt(int64(1+r.Intn(n))), nil)
	x := new(big.Int).Rand(r, limit)
	if r.Intn(2) == 0 {
		x.Neg(x)
	}
	return x
}

// someNumber returns a number with up to n digits in its numerator and its denominator.
func someNumber(r *rand.Rand, n int) *big.Rat {
	bottom := someInteger(r, n)
	if bottom.Sign() == 0 || r.Intn(3) == 0 {
		bottom = big.NewInt(1)
	}
	return new(big.Rat).SetFrac(someInteger(r, n), bottom)
}

// someSpan returns a span of numbers with up to n digits.
func someSpan(r *rand.Rand, n int) (low, high *big.Rat) {
	low, high = someNumber(r, n), someNumber(r, n)
	if low.Cmp(high) > 0 {
		low, high = high, low
	}
	return low, high
}

// order returns the order of two numbers.
func order(t *testing.T, a, b api.Rat) int {
	t.Helper()
	n, e := number.Order(a, b)
	if e != api.OK {
		t.Fatalf("Order of %s and %s: the error %d", a, b, e)
	}
	return n
}

// ordered reports numbers of a list that are not in ascending order.
func ordered(t *testing.T, what string, list ...api.Rat) {
	t.Helper()
	for i := 1; i < len(list); i++ {
		if order(t, list[i-1], list[i]) > 0 {
			t.Errorf("%s: %s stands before %s", what, list[i-1], list[i])
		}
	}
}
