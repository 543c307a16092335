package bank

import (
	"iter"
	"slices"

	"baulk/api"
	"baulk/errno"
	"baulk/table"
)

// Banks returns the words of all paths with up to n rebounds.
func Banks(t table.Table, from, to api.Place, n int) ([][]int, api.Errno) {
	r, e := readSearch(t, from, to, n)
	if e != api.OK {
		return nil, e
	}
	var words [][]int
	for a := range r.attempts(n) {
		if a.why == none {
			words = append(words, a.word)
		}
	}
	return words, api.OK
}

// Fewest returns the first word with the fewest rebounds.
func Fewest(t table.Table, from, to api.Place, n int) ([]int, api.Errno) {
	r, e := readSearch(t, from, to, n)
	if e != api.OK {
		return nil, e
	}
	for a := range r.attempts(n) {
		if a.why == none {
			return a.word, api.OK
		}
	}
	return nil, api.ErrNone
}

// Reasons returns a reason for each word with up to n rebounds that has no path.
func Reasons(t table.Table, from, to api.Place, n int) ([]Reason, api.Errno) {
	r, e := readSearch(t, from, to, n)
	if e != api.OK {
		return nil, e
	}
	var reasons []Reason
	for a := range r.attempts(n) {
		if a.why != none {
			reasons = append(reasons, Reason{Word: a.word, At: a.at, Why: a.why.name()})
		}
	}
	return reasons, api.OK
}

// CheckReason returns OK for a reason that holds.
func CheckReason(t table.Table, from, to api.Place, r Reason) api.Errno {
	way, e := readRoute(t, from, to)
	if e = errno.First(e, way.wordError(r.Word)); e != api.OK {
		return e
	}
	return way.attempt(r.Word).reasonError(r)
}

// CheckNone returns OK for reasons that prove that there is no path.
func CheckNone(t table.Table, from, to api.Place, n int, l []Reason) api.Errno {
	r, e := readSearch(t, from, to, n)
	if e != api.OK {
		return e
	}
	if len(l) != wordsUpTo(n, len(r.Corners)) {
		return api.ErrShape
	}
	i := 0
	for a := range r.attempts(n) {
		if !slices.Equal(a.word, l[i].Word) {
			return api.ErrOrder
		}
		if e := a.reasonError(l[i]); e != api.OK {
			return e
		}
		i++
	}
	return api.OK
}

// reasonError returns the error of a reason for the word of an attempt.
func (a attempt) reasonError(r Reason) api.Errno {
	why := none
	for _, w := range []reason{side, beside, pocket, corner} {
		if w.name() == r.Why {
			why = w
		}
	}
	return errno.First(
		errno.If(why == none, api.ErrKind),
		errorUnless(a.failure, failure{at: r.At, why: why}, api.ErrProof),
	)
}

// errorUnless returns an error unless two values are the same.
func errorUnless[T comparable](found, stated T, e api.Errno) api.Errno {
	return errno.If(found != stated, e)
}

// readSearch returns a table with two places of a path, or the first error of these and of a number of rebounds.
func readSearch(t table.Table, from, to api.Place, n int) (route, api.Errno) {
	r, e := readRoute(t, from, to)
	return r, errno.First(e, r.reboundsError(n))
}

// reboundsError returns the error of a number of rebounds.
func (b bed) reboundsError(n int) api.Errno {
	switch {
	case n < 0 || n > api.MaxBanks:
		return api.ErrRange
	case wordsUpTo(n, len(b.Corners)) > MaxWords:
		return api.ErrLimit
	}
	return api.OK
}

// wordsUpTo returns the number of the words up to n rebounds on a table with some edges.
func wordsUpTo(n, edges int) int {
	all, longest := 1, edges
	for range n {
		all += longest
		longest *= edges - 1
	}
	return all
}

// attempts goes through the words up to n rebounds, each with its path or its failure.
func (r route) attempts(n int) iter.Seq[attempt] {
	return func(yield func(attempt) bool) {
		for word := range words(n, len(r.Corners)) {
			if !yield(r.attempt(word)) {
				return
			}
		}
	}
}

// words goes through the words up to n rebounds on a table with some edges, each of which is new memory.
func words(n, edges int) iter.Seq[[]int] {
	return func(yield func([]int) bool) {
		var extended func(word []int, length int) bool
		extended = func(word []int, length int) bool {
			if len(word) == length {
				return yield(slices.Clone(word))
			}
			for edge := range edges {
				isRepeated := len(word) > 0 && word[len(word)-1] == edge
				if !isRepeated && !extended(append(word, edge), length) {
					return false
				}
			}
			return true
		}
		for length := range n + 1 {
			if !extended(nil, length) {
				return
			}
		}
	}
}
