package number_test

import (
	"math/big"
	"math/rand"
	"slices"
	"testing"

	"baulk/api"
	"baulk/number"
)

// Tests of P1.5 (counts and equations): equations.

type matrix = [][]api.Rat

func TestSolve(t *testing.T) {
	for _, row := range []struct {
		m    matrix
		b, x []api.Rat
	}{
		{matrix{{"2", "1"}, {"1", "-1"}}, []api.Rat{"5", "1"}, []api.Rat{"2", "1"}},
		{matrix{{"3"}}, []api.Rat{"2"}, []api.Rat{"2/3"}},
		{matrix{{"-1/2"}}, []api.Rat{"0"}, []api.Rat{"0"}},
		{matrix{{"0", "1"}, {"1", "0"}}, []api.Rat{"5", "7"}, []api.Rat{"7", "5"}},
		{matrix{{"0", "0", "2"}, {"3", "0", "0"}, {"0", "5", "0"}}, []api.Rat{"1", "1", "1"}, []api.Rat{"1/3", "1/5", "1/2"}},
		{matrix{{"1", "2", "3"}, {"2", "4", "7"}, {"3", "5", "3"}}, []api.Rat{"1", "0", "0"}, []api.Rat{"-23", "15", "-2"}},
		{matrix{{"1/2", "1/3"}, {"1/3", "1/4"}}, []api.Rat{"1", "1/5"}, []api.Rat{"66/5", "-84/5"}},
	} {
		wantList(t, "Solve", both(number.Solve(row.m, row.b)), row.x, api.OK)
	}
}

func TestSingularEquations(t *testing.T) {
	for _, row := range []struct {
		m matrix
		b []api.Rat
	}{
		{matrix{{"1", "1"}, {"2", "2"}}, []api.Rat{"3", "6"}}, // many solutions
		{matrix{{"1", "1"}, {"2", "2"}}, []api.Rat{"3", "7"}}, // none
		{matrix{{"0"}}, []api.Rat{"0"}},
		{matrix{{"0"}}, []api.Rat{"1"}},
		{matrix{{"0", "0"}, {"0", "0"}}, []api.Rat{"0", "0"}},
		{matrix{{"0", "1"}, {"0", "5"}}, []api.Rat{"1", "5"}},
		{matrix{{"1", "2", "3"}, {"4", "5", "6"}, {"7", "8", "9"}}, []api.Rat{"1", "2", "3"}},
		{matrix{{"1/2", "1/3"}, {"3/7", "2/7"}}, []api.Rat{"1", "1"}},
		{matrix{{nines(600), ten(599)}, {"-" + nines(600), "-" + ten(599)}}, []api.Rat{nines(600), "-1"}},
	} {
		wantList(t, "Solve", both(number.Solve(row.m, row.b)), nil, api.ErrSingular)
	}
	// A determinant of 1 is not 0, however large the numbers are.
	n, next, before := nines(600), nines(599)+"8", nines(599)+"7"
	wantList(t, "Solve", both(number.Solve(matrix{{next, n}, {before, next}}, []api.Rat{"1", "0"})), []api.Rat{next, "-" + before}, api.OK)
}

func TestErrorsOfEquations(t *testing.T) {
	wide := slices.Repeat(matrix{{"x"}}, number.MaxEquations+1)
	for i, row := range []struct {
		m matrix
		b []api.Rat
		e api.Errno
	}{
		{nil, nil, api.ErrEmpty}, {matrix{}, []api.Rat{"x", large}, api.ErrEmpty}, {wide, nil, api.ErrMany},
		{matrix{{"1", "1"}, {"2"}}, []api.Rat{"3", "6"}, api.ErrShape}, {matrix{{"1", "1"}, {"2", "1", "1"}}, []api.Rat{"3", "6"}, api.ErrShape},
		{matrix{nil}, []api.Rat{"1"}, api.ErrShape}, {matrix{{"1", "1"}, nil}, nil, api.ErrShape}, {matrix{{"1", "x"}, nil}, nil, api.ErrForm},
		{matrix{nil, {"1", "x"}}, nil, api.ErrShape}, {matrix{{"1", large}, {"x", "1"}}, nil, api.ErrLarge}, {matrix{{"x", large}, {"1", "1"}}, nil, api.ErrForm},
		{matrix{{"x"}, {"1"}}, nil, api.ErrShape}, {matrix{{"1"}}, nil, api.ErrShape}, {matrix{{"1"}}, []api.Rat{"x", "1"}, api.ErrShape},
		{matrix{{"1", "1"}, {"1", "1"}}, []api.Rat{"x", large}, api.ErrForm}, {matrix{{"1", "1"}, {"1", "1"}}, []api.Rat{"1", large}, api.ErrLarge},
		{matrix{{"1", "1"}, {"1", "2/4"}}, []api.Rat{"x", large}, api.ErrForm}, {matrix{{"0"}}, []api.Rat{"x"}, api.ErrForm},
		{matrix{{"x"}}, nil, api.ErrForm},
	} {
		x, e := number.Solve(row.m, row.b)
		if len(x) != 0 || e != row.e {
			t.Errorf("row %d: got %v and the error %d, want %d", i, x, e, row.e)
		}
	}
}

func TestLargeSolutions(t *testing.T) {
	wantList(t, "Solve to 600 digits", both(number.Solve(matrix{{"1/" + ten(599)}}, []api.Rat{"1"})), []api.Rat{ten(599)}, api.OK)
	wantList(t, "Solve to 601 digits", both(number.Solve(matrix{{"1/" + ten(599)}}, []api.Rat{"10"})), nil, api.ErrLarge)
	wantList(t, "Solve to a denominator of 600 digits", both(number.Solve(matrix{{ten(599)}}, []api.Rat{"1"})), []api.Rat{"1/" + ten(599)}, api.OK)
	wantList(t, "Solve to a denominator of 601 digits", both(number.Solve(matrix{{ten(599)}}, []api.Rat{"1/10"})), nil, api.ErrLarge)
	wantList(t, "Solve with the greatest numbers", both(number.Solve(matrix{{nines(600)}}, []api.Rat{nines(599) + "8"})), []api.Rat{nines(599) + "8/" + nines(600)}, api.OK)
	wantList(t, "Solve with one large number", both(number.Solve(matrix{{"1", "0"}, {"0", "1/" + ten(599)}}, []api.Rat{"1", "10"})), nil, api.ErrLarge)
	wantList(t, "Solve with a very large number", both(number.Solve(matrix{{"1/" + nines(600)}}, []api.Rat{nines(600)})), nil, api.ErrLarge)
	wantList(t, "Solve with a very large number", both(number.Solve(matrix{{"1", "0"}, {"-" + ten(599), "1/" + nines(600)}}, []api.Rat{ten(599), "1"})), nil, api.ErrLarge)
}

// product returns the product of the numbers of equations and of their solution.
func product(m [][]*big.Rat, x []*big.Rat) []*big.Rat {
	b := make([]*big.Rat, len(m))
	for i, row := range m {
		b[i] = new(big.Rat)
		for j, y := range row {
			b[i].Add(b[i], new(big.Rat).Mul(y, x[j]))
		}
	}
	return b
}

// texts returns the texts of numbers.
func texts(list []*big.Rat) []api.Rat {
	result := make([]api.Rat, len(list))
	for i, x := range list {
		result[i] = text(x)
	}
	return result
}

// someMatrix returns n rows of numbers with up to so many digits.
func someMatrix(r *rand.Rand, n int, some func() *big.Rat) [][]*big.Rat {
	m := make([][]*big.Rat, n)
	for i := range m {
		for range n {
			m[i] = append(m[i], some())
		}
	}
	return m
}

func textRows(m [][]*big.Rat) matrix {
	rows := make(matrix, len(m))
	for i, row := range m {
		rows[i] = texts(row)
	}
	return rows
}

func TestSolutionsAreFound(t *testing.T) {
	r := rand.New(rand.NewSource(17))
	for i := range 120 {
		n, digits := 1+i%number.MaxEquations, []int{2, 5, 20}[i%3]
		m := someMatrix(r, n, func() *big.Rat { return someNumber(r, digits) })
		for k := range n { // so that the rows are not dependent, whatever the numbers are
			m[k][k].Add(m[k][k], new(big.Rat).SetInt(new(big.Int).Exp(big.NewInt(10), big.NewInt(int64(digits+3)), nil)))
		}
		x := make([]*big.Rat, n)
		for k := range x {
			x[k] = new(big.Rat).SetInt(someInteger(r, 20))
		}
		b := product(m, x)
		if slices.ContainsFunc(b, tooLarge) {
			continue
		}
		wantList(t, "Solve", both(number.Solve(textRows(m), texts(b))), texts(x), api.OK)
		if n > 1 { // a row that is a multiple of another one
			factor := someNumber(r, 3)
			for k := range m[0] {
				m[0][k] = new(big.Rat).Mul(m[n-1][k], factor)
			}
			wantList(t, "Solve of dependent rows", both(number.Solve(textRows(m), texts(b))), nil, api.ErrSingular)
		}
	}
}

// The numbers of an elimination are far longer here than those of the arguments and of the result.
func TestLongEquations(t *testing.T) {
	r := rand.New(rand.NewSource(18))
	m := someMatrix(r, number.MaxEquations, func() *big.Rat { return new(big.Rat).SetInt(someInteger(r, 597)) })
	x := make([]*big.Rat, len(m))
	for k := range x {
		x[k] = big.NewRat(int64(k-12), 1)
	}
	b := texts(product(m, x))
	wantList(t, "Solve", both(number.Solve(textRows(m), b)), texts(x), api.OK)
	b[7] = "1"
	wantList(t, "Solve with long solutions", both(number.Solve(textRows(m), b)), nil, api.ErrLarge)
	m[5] = m[20]
	wantList(t, "Solve of dependent rows", both(number.Solve(textRows(m), b)), nil, api.ErrSingular)
}

// The numbers 1 / (i + j + 1) have an inverse of large integers.
func TestHilbert(t *testing.T) {
	m := make([][]*big.Rat, number.MaxEquations)
	x := make([]*big.Rat, len(m))
	for i := range m {
		for j := range m {
			m[i] = append(m[i], big.NewRat(1, int64(i+j+1)))
		}
		x[i] = big.NewRat(int64(i+1), 3)
	}
	wantList(t, "Solve", both(number.Solve(textRows(m), texts(product(m, x)))), texts(x), api.OK)
	unit := slices.Repeat([]api.Rat{"0"}, len(m))
	unit[0] = "1"
	got, e := number.Solve(textRows(m), unit)
	if e != api.OK || got[0] != "576" || got[1] != "-165600" {
		t.Errorf("Solve: got %v and the error %d", got, e)
	}
}

func TestSolveKeepsArguments(t *testing.T) {
	m, b := matrix{{"0", "2"}, {"3", "1"}}, []api.Rat{"4", "5"}
	x, _ := number.Solve(m, b)
	if !slices.Equal(m[0], []api.Rat{"0", "2"}) || !slices.Equal(m[1], []api.Rat{"3", "1"}) || !slices.Equal(b, []api.Rat{"4", "5"}) {
		t.Errorf("the arguments are now %v and %v", m, b)
	}
	wantList(t, "Solve", both(x, api.OK), []api.Rat{"1", "2"}, api.OK)
}
