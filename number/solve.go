package number

import (
	"iter"
	"math/bits"

	"baulk/api"
	"baulk/exact"
)

// field is a type whose values are added, multiplied and divided without rounding.
type field[T any] interface {
	Minus(T) T
	Times(T) T
	Over(T) T
	IsZero() bool
}

// Solve returns the only solution of equations.
func Solve(m [][]api.Rat, b []api.Rat) ([]api.Rat, api.Errno) {
	rows, e := readEquations(m, b)
	if e != api.OK {
		return nil, e
	}
	solution, e := solved(rows)
	if e != api.OK {
		return nil, e
	}
	result := make([]api.Rat, len(solution))
	for i, x := range solution {
		if result[i], e = exact.Write(x); e != api.OK {
			return nil, e
		}
	}
	return result, api.OK
}

// readEquations returns the rows of equations, each one with its number of b behind it, or their error.
func readEquations(m [][]api.Rat, b []api.Rat) ([][]exact.Fraction, api.Errno) {
	if len(m) == 0 {
		return nil, api.ErrEmpty
	}
	if len(m) > MaxEquations {
		return nil, api.ErrMany
	}
	rows := make([][]exact.Fraction, len(m))
	for i, texts := range m {
		row, e := readList(texts, len(m))
		if e != api.OK {
			return nil, e
		}
		rows[i] = row
	}
	last, e := readList(b, len(m))
	if e != api.OK {
		return nil, e
	}
	for i, x := range last {
		rows[i] = append(rows[i], x)
	}
	return rows, api.OK
}

// readList returns n numbers, or ErrShape if there are not n of them, or the error of the first one with one.
func readList(texts []api.Rat, n int) ([]exact.Fraction, api.Errno) {
	if len(texts) != n {
		return nil, api.ErrShape
	}
	list := make([]exact.Fraction, 0, n)
	for x, e := range numbers(texts) {
		if e != api.OK {
			return nil, e
		}
		list = append(list, x)
	}
	return list, api.OK
}

// numbers goes through the numbers of a list, each one with its error.
func numbers(texts []api.Rat) iter.Seq2[exact.Fraction, api.Errno] {
	return func(yield func(exact.Fraction, api.Errno) bool) {
		for _, text := range texts {
			if !yield(exact.Read(text)) {
				return
			}
		}
	}
}

// solved returns the only solution of equations whose numbers are not too large, or ErrSingular, or ErrLarge.
//
// The numbers of an elimination with fractions become as long as all numbers of the equations together. So they are
// solved modulo primes, and the solution is the only one with short numbers that has these remainders.
func solved(rows [][]exact.Fraction) ([]exact.Fraction, api.Errno) {
	most := determinantBits(rows)
	size := min(most, exact.MaxBits)
	lost := 0
	var found remainders
	for prime := range primesBelow(greatestPrime) {
		system, ok := modulo(rows, prime)
		if !ok {
			continue
		}
		solution, ok := eliminated(system)
		if !ok {
			// The determinant is a multiple of all these primes: it is 0 if it is less than their product.
			if lost += leastPrimeBits; lost > most {
				return nil, api.ErrSingular
			}
			continue
		}
		found = found.with(solution, prime)
		if found.modulus.Bits() > 2*size+2 {
			break
		}
	}
	solution := found.fractions(size)
	for _, row := range rows {
		if !satisfies(row, solution) {
			return nil, api.ErrLarge
		}
	}
	return solution, api.OK
}

// determinantBits returns a number of binary digits that is not exceeded by any determinant of columns of equations with
// integers that are multiples of these ones: neither are numerators and denominators of their solution.
func determinantBits(rows [][]exact.Fraction) int {
	sum := 0
	for _, row := range rows {
		most := 0
		for _, x := range row {
			most = max(most, x.Top().Bits())
			sum += x.Bottom().Bits()
		}
		sum += most + bits.Len(uint(len(row)))
	}
	return sum
}

// eliminated returns the only solution of equations, and whether there is just one.
func eliminated[T field[T]](rows [][]T) ([]T, bool) {
columns:
	for c := range rows {
		for p := c; p < len(rows); p++ {
			if rows[p][c].IsZero() {
				continue
			}
			rows[c], rows[p] = rows[p], rows[c]
			clearColumn(rows, c)
			continue columns
		}
		return nil, false
	}
	solution := make([]T, len(rows))
	for i, row := range rows {
		solution[i] = row[len(rows)]
	}
	return solution, true
}

// clearColumn makes the number c of the row c 1, and those of the other rows 0; what stands before is not needed any
// more, and stays.
func clearColumn[T field[T]](rows [][]T, c int) {
	pivot := rows[c]
	for j := len(pivot) - 1; j >= c; j-- {
		pivot[j] = pivot[j].Over(pivot[c])
	}
	for i, row := range rows {
		if i == c || row[c].IsZero() {
			continue
		}
		for j := len(row) - 1; j >= c; j-- {
			row[j] = row[j].Minus(row[c].Times(pivot[j]))
		}
	}
}

// satisfies reports whether an equation has a solution. It does not reduce the fractions on the way, which would take
// most of the time.
func satisfies(row, solution []exact.Fraction) bool {
	top, bottom := exact.NewInt(0), exact.NewInt(1)
	for j, x := range solution {
		part := row[j].Top().Times(x.Top())
		below := row[j].Bottom().Times(x.Bottom())
		top = top.Times(below).Plus(part.Times(bottom))
		bottom = bottom.Times(below)
	}
	last := row[len(solution)]
	return top.Times(last.Bottom()).Order(last.Top().Times(bottom)) == 0
}
