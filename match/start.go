package match

import "baulk/exact"

// withStart returns the chance of the second player, in parts of the whole, to win with a start, for a race in which both
// need as many frames. With a start below 0 this player has to win all of them before the first one has what is left for
// that one; otherwise the first player must not do so.
func (x outcomes) withStart(start int) exact.Int {
	if start < 0 {
		return sum(x.second()[:x.race.Need[0]+start])
	}
	return x.whole.Minus(sum(x.first()[:x.race.Need[1]-start]))
}

// fairest returns the fairest start of a race in which both need as many frames.
func (x outcomes) fairest() int {
	best, least := 0, x.whole
search:
	for size := range x.race.Need[0] {
		for _, start := range []int{size, -size} {
			// Twice the chance is compared with 1.
			chance := x.withStart(start).Times(exact.NewInt(2))
			if far := distance(chance, x.whole); far.Order(least) < 0 {
				best, least = start, far
			}
			if least.Sign() == 0 {
				break search
			}
		}
	}
	return best
}

// least returns the least start with which the second player has at least a chance, and whether there is one.
func (x outcomes) least(chance exact.Ratio) (int, bool) {
	frames := x.race.Need[0]
	for i := range 2*frames - 1 {
		start := i + 1 - frames
		if x.ratio(x.withStart(start)).Order(chance) >= 0 {
			return start, true
		}
	}
	return 0, false
}

// difference is a type whose values can be subtracted, and have signs.
type difference[T any] interface {
	Minus(T) T
	Negated() T
	Sign() int
}

// distance returns how far two numbers are from each other.
func distance[T difference[T]](a, b T) T {
	d := a.Minus(b)
	if d.Sign() < 0 {
		return d.Negated()
	}
	return d
}
