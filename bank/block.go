package bank

import (
	"baulk/api"
	"baulk/errno"
	"baulk/exact"
	"baulk/plane"
	"baulk/table"
)

// setting is a table with the balls that matter.
type setting struct {
	bed
	reach exact.Ratio // the square of two radii
	balls []obstacle
}

// obstacle is a ball that may block a path.
type obstacle struct {
	name string
	at   plane.Place
}

// Gap returns the square of the distance of a place from a segment.
func Gap(a, b, p api.Place) (api.Rat, api.Errno) {
	from, first := plane.Read(a)
	to, second := plane.Read(b)
	at, third := plane.Read(p)
	if e := errno.First(first, second, third); e != api.OK {
		return "", e
	}
	return exact.Write(plane.Gap(from, to, at).Fraction())
}

// Blocked returns the first ball that blocks a path, and its leg.
func Blocked(t table.Table, l []table.Ball, path []api.Place, except []string) (string, int, api.Errno) {
	s, e := readLayout(t, l)
	if e != api.OK {
		return "", 0, e
	}
	places, first := s.readPlaces(path)
	s, second := s.without(except)
	if e := errno.First(first, second); e != api.OK {
		return "", 0, e
	}
	name, leg, ok := s.block(places)
	if !ok {
		return "", 0, api.ErrNone
	}
	return name, leg, api.OK
}

// Clear returns the words of all paths that no ball blocks.
func Clear(t table.Table, l []table.Ball, from, to api.Place, n int, except []string) ([][]int, api.Errno) {
	s, e := readLayout(t, l)
	if e != api.OK {
		return nil, e
	}
	r, first := s.readRoute(from, to)
	s, second := s.without(except)
	if e := errno.First(first, s.reboundsError(n), second); e != api.OK {
		return nil, e
	}
	var words [][]int
	for a := range r.attempts(n) {
		if a.why != none {
			continue
		}
		if _, _, ok := s.block(a.path); !ok {
			words = append(words, a.word)
		}
	}
	return words, api.OK
}

// block returns the name of the first ball that blocks the first leg of a path that is blocked, this leg, and whether
// there is one.
func (s setting) block(path []plane.Place) (string, int, bool) {
	name, blocked, ok := "", 0, false
search:
	for leg := range len(path) - 1 {
		for _, ball := range s.balls {
			if plane.Gap(path[leg], path[leg+1], ball.at).Order(s.reach) < 0 {
				name, blocked, ok = ball.name, leg, true
				break search
			}
		}
	}
	return name, blocked, ok
}

// readLayout returns a table and its balls, or their error.
func readLayout(t table.Table, l []table.Ball) (setting, api.Errno) {
	if e := table.CheckLayout(t, l); e != api.OK {
		return setting{}, e
	}
	s := setting{bed: bedOf(t), reach: exact.Whole(4 * t.Radius * t.Radius).Ratio()}
	for _, ball := range l {
		at, _ := plane.Read(ball.At)
		s.balls = append(s.balls, obstacle{name: ball.Name, at: at})
	}
	return s, api.OK
}

// readPlaces returns the places of any path on the table, or its error.
func (s setting) readPlaces(path []api.Place) ([]plane.Place, api.Errno) {
	if len(path) < 2 || len(path) > api.MaxBanks+2 {
		return nil, api.ErrShape
	}
	var places []plane.Place
	for _, p := range path {
		at, e := s.readWithin(p)
		if e != api.OK {
			return nil, e
		}
		places = append(places, at)
	}
	return places, api.OK
}

// without returns a setting without the balls with some names, or the error of these.
func (s setting) without(names []string) (setting, api.Errno) {
	if len(names) > api.MaxBalls {
		return s, api.ErrMany
	}
	matters := map[string]bool{}
	for _, ball := range s.balls {
		matters[ball.name] = true
	}
	for _, name := range names {
		isLeft, isKnown := matters[name]
		switch {
		case !isKnown:
			return s, api.ErrUnknown
		case !isLeft:
			return s, api.ErrTwice
		}
		matters[name] = false
	}
	var left []obstacle
	for _, ball := range s.balls {
		if matters[ball.name] {
			left = append(left, ball)
		}
	}
	return setting{bed: s.bed, reach: s.reach, balls: left}, api.OK
}
