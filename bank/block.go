package bank

import (
	"baulk/api"
	"baulk/errno"
	"baulk/exact"
	"baulk/plane"
	"baulk/scene"
	"baulk/table"
)

// Gap returns the square of the distance of a place from a segment.
func Gap(a, b, p api.Place) (api.Rat, api.Errno) {
	from, first := plane.Read(a)
	to, second := plane.Read(b)
	at, third := plane.Read(p)
	if e := errno.First(first, second, third); e != api.OK {
		return "", e
	}
	return exact.Write(plane.Gap(from, to, at).Fraction())
}

// Blocked returns the first ball that blocks a path, and its leg.
func Blocked(t table.Table, l []table.Ball, path []api.Place, except []string) (string, int, api.Errno) {
	b, e := readLayout(t, l)
	if e != api.OK {
		return "", 0, e
	}
	places, first := b.readPlaces(path)
	b, second := b.without(except)
	if e := errno.First(first, second); e != api.OK {
		return "", 0, e
	}
	name, leg, ok := b.block(places)
	if !ok {
		return "", 0, api.ErrNone
	}
	return name, leg, api.OK
}

// Clear returns the words of all paths that no ball blocks.
func Clear(t table.Table, l []table.Ball, from, to api.Place, n int, except []string) ([][]int, api.Errno) {
	b, e := readLayout(t, l)
	if e != api.OK {
		return nil, e
	}
	r, first := b.readRoute(from, to)
	b, second := b.without(except)
	if e := errno.First(first, b.reboundsError(n), second); e != api.OK {
		return nil, e
	}
	var words [][]int
	for a := range r.attempts(n) {
		if a.why != none {
			continue
		}
		if _, _, ok := b.block(a.path); !ok {
			words = append(words, a.word)
		}
	}
	return words, api.OK
}

// block returns the name of the first ball that blocks the first leg of a path that is blocked, this leg, and whether
// there is one.
func (b bed) block(path []plane.Place) (string, int, bool) {
	name, blocked, ok := "", 0, false
search:
	for leg := range len(path) - 1 {
		for _, ball := range b.Balls {
			if b.Blocks(ball, path[leg], path[leg+1]) {
				name, blocked, ok = ball.Name, leg, true
				break search
			}
		}
	}
	return name, blocked, ok
}

// readLayout returns a table and its balls, or their error.
func readLayout(t table.Table, l []table.Ball) (bed, api.Errno) {
	s, e := scene.ReadLayout(t, l)
	return bed{s}, e
}

// readPlaces returns the places of any path on the table, or its error.
func (b bed) readPlaces(path []api.Place) ([]plane.Place, api.Errno) {
	if len(path) < 2 || len(path) > api.MaxBanks+2 {
		return nil, api.ErrShape
	}
	var places []plane.Place
	for _, p := range path {
		at, e := b.ReadWithin(p)
		if e != api.OK {
			return nil, e
		}
		places = append(places, at)
	}
	return places, api.OK
}

// without returns a table without the balls with some names, or the error of these.
func (b bed) without(names []string) (bed, api.Errno) {
	if len(names) > api.MaxBalls {
		return b, api.ErrMany
	}
	matters := map[string]bool{}
	for _, ball := range b.Balls {
		matters[ball.Name] = true
	}
	for _, name := range names {
		isLeft, isKnown := matters[name]
		switch {
		case !isKnown:
			return b, api.ErrUnknown
		case !isLeft:
			return b, api.ErrTwice
		}
		matters[name] = false
	}
	return bed{b.Without(names...)}, api.OK
}
