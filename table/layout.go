package table

import (
	"iter"

	"baulk/api"
	"baulk/errno"
	"baulk/exact"
	"baulk/plane"
)

// setting is a table with the places of its balls.
type setting struct {
	board
	balls []plane.Place
}

// CheckLayout returns the first error of a table and its balls, or OK.
func CheckLayout(t Table, l []Ball) api.Errno {
	_, e := readLayout(t, l)
	return e
}

// Free reports whether a ball may be put at a place.
func Free(t Table, l []Ball, p api.Place) (bool, api.Errno) {
	s, e := readLayout(t, l)
	if e != api.OK {
		return false, e
	}
	at, e := plane.Read(p)
	if e != api.OK {
		return false, e
	}
	return s.Position(at) >= 0 && !s.overlapped(at), api.OK
}

// Spotted returns the first free place from a spot on, in steps.
func Spotted(t Table, l []Ball, spot string, step api.Place) (api.Place, api.Errno) {
	s, e := readLayout(t, l)
	if e != api.OK {
		return api.Place{}, e
	}
	start, known := s.spots[spot]
	way, e := plane.Read(step)
	isZero := coordinates(step) == [2]api.Rat{"0", "0"}
	if e = errno.First(errno.If(!known, api.ErrUnknown), e, errno.If(isZero, api.ErrZero)); e != api.OK {
		return api.Place{}, e
	}
	return s.firstFree(start, way)
}

// firstFree returns the first free place from a start on, in steps.
func (s setting) firstFree(start, step plane.Place) (api.Place, api.Errno) {
	at, e := start, api.ErrLimit
search:
	for k := range MaxTries {
		at = start.Plus(step.Times(k))
		switch {
		case s.Position(at) < 0:
			e = api.ErrNone
			break search
		case !s.overlapped(at):
			e = api.OK
			break search
		}
	}
	if e != api.OK {
		return api.Place{}, e
	}
	return at.Write()
}

// Nearest returns the first two of the balls that are nearest to each other, and the square of their distance.
func Nearest(t Table, l []Ball) ([2]int, api.Rat, api.Errno) {
	s, e := readLayout(t, l)
	if e != api.OK {
		return [2]int{}, "", e
	}
	if len(s.balls) < 2 {
		return [2]int{}, "", api.ErrNone
	}
	nearest, least := [2]int{0, 1}, plane.Distance(s.balls[0], s.balls[1])
	for pair, distance := range s.distances() {
		if distance.Order(least) < 0 {
			nearest, least = pair, distance
		}
	}
	square, e := exact.Write(least.Fraction())
	if e != api.OK {
		return [2]int{}, "", e
	}
	return nearest, square, api.OK
}

// Touching returns the pairs of balls that touch.
func Touching(t Table, l []Ball) ([][2]int, api.Errno) {
	s, e := readLayout(t, l)
	if e != api.OK {
		return nil, e
	}
	var pairs [][2]int
	for pair, distance := range s.distances() {
		if distance.Order(s.reach()) == 0 {
			pairs = append(pairs, pair)
		}
	}
	return pairs, api.OK
}

// readLayout returns a table and its balls, or their error.
func readLayout(t Table, l []Ball) (setting, api.Errno) {
	b, e := readTable(t)
	if e != api.OK {
		return setting{}, e
	}
	if len(l) > api.MaxBalls {
		return setting{}, api.ErrMany
	}
	s := setting{board: b}
	names := map[string]bool{}
	for _, ball := range l {
		at, e := b.readNamed(ball.Name, ball.At, names)
		if e = errno.First(e, errno.If(s.overlapped(at), api.ErrOverlap)); e != api.OK {
			return setting{}, e
		}
		s.balls = append(s.balls, at)
	}
	return s, api.OK
}

// reach returns the square of two radii.
func (b board) reach() exact.Ratio { return exact.Whole(4 * b.radius * b.radius).Ratio() }

// overlapped reports whether a ball at a place would overlap another one.
func (s setting) overlapped(p plane.Place) bool {
	for _, ball := range s.balls {
		if plane.Distance(p, ball).Order(s.reach()) < 0 {
			return true
		}
	}
	return false
}

// distances goes through the pairs of balls, in lexicographic order, each one with the square of its distance.
func (s setting) distances() iter.Seq2[[2]int, exact.Ratio] {
	return func(yield func([2]int, exact.Ratio) bool) {
		for i, p := range s.balls {
			for j := i + 1; j < len(s.balls); j++ {
				if !yield([2]int{i, j}, plane.Distance(p, s.balls[j])) {
					return
				}
			}
		}
	}
}
