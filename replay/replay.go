// Package replay goes through logs: lists of entries from which a state follows.
package replay

import "iter"

// Step is an entry of a log with the states before and after it. An entry that a rule refuses is set aside: it changes
// nothing.
type Step[S, E any] struct {
	Entry  E
	Number int // from 1 on
	Rule   int // 0 if the entry is legal
	Before S
	After  S
}

// Steps goes through the entries of a log that begins in a state, by the rule that refuses an entry, 0 if none does, and
// by the state after a legal entry.
func Steps[S, E any](start S, l []E, rule func(S, E) int, next func(S, E) S) iter.Seq[Step[S, E]] {
	return func(yield func(Step[S, E]) bool) {
		at := start
		for i, x := range l {
			s := Step[S, E]{Entry: x, Number: i + 1, Rule: rule(at, x), Before: at, After: at}
			if s.Rule == 0 {
				s.After = next(at, x)
			}
			if !yield(s) {
				return
			}
			at = s.After
		}
	}
}
