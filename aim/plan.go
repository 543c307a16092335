package aim

import (
	"slices"

	"baulk/api"
	"baulk/errno"
	"baulk/exact"
	"baulk/plane"
	"baulk/scene"
)

// Plan returns the declared places from which the ball goes into a pocket.
func Plan(s Shot, pocket string) ([]int, api.Errno) {
	read, number, e := readPotting(s, pocket)
	if e != api.OK {
		return nil, e
	}
	return numbersWhere(read.places(), func(p declared) bool {
		return read.isOpen(p) && read.isPlanned(p, number)
	}), api.OK
}

// isPlanned reports whether the ball goes from a declared place into a pocket, and no ball but both blocks its way.
func (s shot) isPlanned(p declared, pocket int) bool {
	to := p.opposite()
	_, at := exit(s.Scene, s.ball.At, to)
	return pocketAt(s.Scene, straight(s.ball.At, to)) == pocket && s.isClear(at)
}

// CheckPlan returns OK for a direction of the cue ball with which the ball goes into a pocket.
func CheckPlan(s Shot, pocket string, direction api.Place) api.Errno {
	read, number, first := readPotting(s, pocket)
	to, second := readDirection(direction)
	if e := errno.First(first, second); e != api.OK {
		return e
	}
	play := stroke{Scene: read.Without(s.Cue), from: read.cue.At, direction: to}
	return errno.If(!play.pots(s.Ball, number), api.ErrProof)
}

// Window returns the steps of a pocket to which the way of the ball is clear.
func Window(s Shot, pocket string) ([]int, api.Errno) {
	read, number, e := readPotting(s, pocket)
	if e != api.OK {
		return nil, e
	}
	return numbersWhere(steps(read.Scene, number), read.isClear), api.OK
}

// Reachable returns the pockets to which the ball has a clear way.
func Reachable(s Shot) ([]string, api.Errno) {
	read, e := readShot(s)
	if e != api.OK {
		return nil, e
	}
	var names []string
	for i, p := range s.Table.Pockets {
		if slices.ContainsFunc(steps(read.Scene, i), read.isClear) {
			names = append(names, p.Name)
		}
	}
	return names, api.OK
}

// Combination returns the declared places from which the ball hits a second one that goes into a pocket.
func Combination(s Shot, second, pocket string) ([]int, api.Errno) {
	read, e := readShot(s)
	number, isPocket := read.pockets[pocket]
	e = errno.First(e, read.secondError(second), errno.If(!isPocket, api.ErrUnknown))
	if e != api.OK {
		return nil, e
	}
	return numbersWhere(read.places(), func(p declared) bool {
		play := stroke{Scene: read.others, from: read.ball.At, direction: p.opposite()}
		return read.isOpen(p) && play.pots(second, number)
	}), api.OK
}

// Carom returns the declared places from which the cue ball hits a second ball.
func Carom(s Shot, second string) ([]int, api.Errno) {
	read, e := readShot(s)
	if e = errno.First(e, read.secondError(second)); e != api.OK {
		return nil, e
	}
	return numbersWhere(read.places(), func(p declared) bool {
		return read.isOpen(p) && read.isCarom(p, second)
	}), api.OK
}

// isCarom reports whether the cue ball, going on from a declared place, hits a second ball first.
func (s shot) isCarom(p declared, second string) bool {
	// A way without its part along a unit vector goes along this vector, turned by a quarter to the one side or to the
	// other one.
	way, _ := whole(p.at.Minus(s.cue.At))
	along, _ := whole(unit(p.number))
	turn := 0
	switch along.cross(way).Sign() {
	case 0:
		return false
	case 1:
		turn = Units / 4
	case -1:
		turn = Units - Units/4
	}
	c, ok := stroke{Scene: s.others, from: p.at, direction: unit(p.number + turn)}.first()
	return ok && c.ball.Name == second
}

// opposite returns the direction in which the ball goes when it is hit at a declared place.
func (p declared) opposite() plane.Place { return unit(p.number + Units/2) }

// pots reports whether a ball is hit first and goes into a pocket.
func (s stroke) pots(ball string, pocket int) bool {
	c, ok := s.first()
	if !ok || c.ball.Name != ball {
		return false
	}
	entered, isBlocked := s.outcome(c)
	return entered == pocket && !isBlocked
}

// exit returns the edge and the place at which the way from a place in a direction ends.
func exit(s scene.Scene, from, direction plane.Place) (int, plane.Place) {
	edge := straight(from, direction).end(s.Outline).edge
	return edge, s.Edge(edge).Crossing(from, from.Plus(direction))
}

// steps returns the places of the steps of a pocket.
func steps(s scene.Scene, pocket int) []plane.Place {
	gap := s.Gaps[pocket]
	edge, from := s.Edge(gap.Edge), gap.From.Fraction()
	width := gap.To.Fraction().Minus(from)
	var places []plane.Place
	for k := range Steps + 1 {
		part := exact.NewFraction(exact.NewInt(k), exact.NewInt(Steps))
		places = append(places, edge.Place(from.Plus(width.Times(part))))
	}
	return places
}
