package snooker

import (
	"slices"

	"baulk/exact"
	"baulk/plane"
)

// lane is the half of a line on which a colour is put if no spot is free. It is computed in whole numbers, as fractions
// that are reduced on the way would take most of the time.
type lane struct {
	unit    exact.Int // makes the direction a vector of whole numbers; above 0
	square  exact.Int // the square of this vector
	hurdles []hurdle
}

// hurdle is a ball beside a lane. It is in the way at the marks whose product with scale differs from middle by less than
// the root of spread.
type hurdle struct {
	middle exact.Int
	spread exact.Int
	scale  exact.Int // above 0
}

// mark is a place on a lane: how many times the direction it is from the spot, times square over unit. It is a surd of
// whole numbers over a whole number above 0.
type mark struct {
	top    exact.Surd
	bottom exact.Int
}

// lane returns the lane from the spot of the colour.
func (s site) lane() lane {
	x, y, unit := s.along.Whole()
	l := lane{unit: unit, square: dot(x, y, x, y)}
	for _, ball := range s.balls {
		l.hurdles = append(l.hurdles, s.hurdle(ball, l.square))
	}
	return l
}

// hurdle returns a ball beside the lane whose direction has a square.
func (s site) hurdle(ball plane.Place, square exact.Int) hurdle {
	toX, toY, _ := s.along.Whole()
	x, y, width := ball.Minus(s.spots[s.own]).Whole()
	top, bottom := s.diameter.Top(), s.diameter.Bottom()
	// Lengths are measured in parts of 1 in which the way to the ball, and the diameter, are whole.
	x, y, top = x.Times(bottom), y.Times(bottom), top.Times(width)
	middle := dot(x, y, toX, toY)
	beyond := dot(x, y, x, y).Minus(squared(top))
	return hurdle{
		middle: middle,
		spread: squared(middle).Minus(square.Times(beyond)),
		scale:  width.Times(bottom),
	}
}

func dot(ax, ay, bx, by exact.Int) exact.Int { return ax.Times(bx).Plus(ay.Times(by)) }

func squared(n exact.Int) exact.Int { return n.Times(n) }

// out returns the mark of the way out of a hurdle with a spread above 0.
func (h hurdle) out() mark {
	top := exact.Surd{A: exact.NewWhole(h.middle), B: exact.Whole(1), D: exact.NewWhole(h.spread)}
	return mark{top: top, bottom: h.scale}
}

// isIn reports whether a hurdle is in the way at a mark.
func (m mark) isIn(h hurdle) bool {
	aside := m.top.Scaled(exact.NewWhole(h.scale))
	aside.A = aside.A.Minus(exact.NewWhole(h.middle.Times(m.bottom)))
	aside = aside.Times(aside)
	aside.A = aside.A.Minus(exact.NewWhole(h.spread.Times(squared(m.bottom))))
	return aside.Sign() < 0
}

// order returns -1, 0 or 1 if a mark is less than, equal to, or greater than another one.
func (m mark) order(n mark) int {
	return m.top.Scaled(exact.NewWhole(n.bottom)).Order(n.top.Scaled(exact.NewWhole(m.bottom)))
}

// mark returns the mark at a surd times the direction.
func (l lane) mark(t exact.Surd) mark {
	// The root of p/q is that of p q, over q.
	p, q := t.D.Top(), t.D.Bottom()
	root := exact.NewWhole(p.Times(q))
	bottom := q.Times(t.A.Bottom()).Times(t.B.Bottom())
	top := exact.Surd{A: t.A, B: t.B.Over(exact.NewWhole(q)), D: root}
	return mark{top: top.Scaled(exact.NewWhole(bottom.Times(l.square))), bottom: bottom.Times(l.unit)}
}

// isFree reports whether a colour may be put at a mark.
func (l lane) isFree(m mark) bool { return !slices.ContainsFunc(l.hurdles, m.isIn) }

// order compares the ways out of two hurdles by their numbers.
func (l lane) order(i, j int) int { return l.hurdles[i].out().order(l.hurdles[j].out()) }

// isExit reports whether the way out of a hurdle leads to where a colour may be put.
func (l lane) isExit(i int) bool {
	out := l.hurdles[i].out()
	return out.top.Sign() >= 0 && l.isFree(out)
}

// exit returns the least way out, of a lane on which the spot itself is not free.
func (l lane) exit() exact.Surd {
	var numbers []int
	for i, h := range l.hurdles {
		if h.spread.Sign() > 0 {
			numbers = append(numbers, i)
		}
	}
	slices.SortStableFunc(numbers, l.order)
	// Behind the last ball the lane is free.
	for len(numbers) > 1 && !l.isExit(numbers[0]) {
		numbers = numbers[1:]
	}
	return l.length(l.hurdles[numbers[0]])
}

// length returns the way out of a hurdle as a surd times the direction.
func (l lane) length(h hurdle) exact.Surd {
	return exact.Surd{
		A: exact.NewFraction(h.middle.Times(l.unit), h.scale.Times(l.square)),
		B: exact.NewFraction(squared(l.unit), l.square),
		D: exact.NewFraction(h.spread, squared(h.scale.Times(l.unit))),
	}
}
