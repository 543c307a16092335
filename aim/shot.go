package aim

import (
	"baulk/api"
	"baulk/errno"
	"baulk/plane"
	"baulk/scene"
	"baulk/table"
)

// shot is a shot whose numbers have been read.
type shot struct {
	scene.Scene             // with all balls
	others      scene.Scene // without the cue ball and the ball
	cue         scene.Ball
	ball        scene.Ball
	known       map[string]scene.Ball
	pockets     map[string]int
}

// declared is a declared place of a shot, at the end of a declared unit vector.
type declared struct {
	number int
	at     plane.Place
}

// readShot returns a shot, or its error.
func readShot(s Shot) (shot, api.Errno) {
	all, e := scene.ReadLayout(s.Table, s.Balls)
	if e != api.OK {
		return shot{}, e
	}
	known := byName(all)
	cue, hasCue := known[s.Cue]
	ball, hasBall := known[s.Ball]
	e = errno.First(
		errno.If(!hasCue || !hasBall, api.ErrUnknown),
		errno.If(s.Cue == s.Ball, api.ErrTwice),
	)
	if e != api.OK {
		return shot{}, e
	}
	return shot{
		Scene:   all,
		others:  all.Without(s.Cue, s.Ball),
		cue:     cue,
		ball:    ball,
		known:   known,
		pockets: numbersOfPockets(s.Table),
	}, api.OK
}

// readPotting returns a shot and the number of a pocket, or the first error.
func readPotting(s Shot, pocket string) (shot, int, api.Errno) {
	read, e := readShot(s)
	if e != api.OK {
		return shot{}, 0, e
	}
	number, isKnown := read.pockets[pocket]
	return read, number, errno.If(!isKnown, api.ErrUnknown)
}

// numbersOfPockets returns the numbers of pockets by their names.
func numbersOfPockets(t table.Table) map[string]int {
	numbers := map[string]int{}
	for i, p := range t.Pockets {
		numbers[p.Name] = i
	}
	return numbers
}

// secondError returns the error of the name of a second ball.
func (s shot) secondError(name string) api.Errno {
	_, isKnown := s.known[name]
	return errno.First(errno.If(!isKnown, api.ErrUnknown), errno.If(s.isOneOfBoth(name), api.ErrTwice))
}

// isOneOfBoth reports whether a name is that of the cue ball or the ball.
func (s shot) isOneOfBoth(name string) bool { return name == s.cue.Name || name == s.ball.Name }

// isUnit reports whether there is a declared unit vector with a number.
func isUnit(n int) bool { return n >= 0 && n < Units }

// unit returns the declared unit vector with a number, counted on around the circle.
func unit(n int) plane.Place {
	n %= Units
	k := n % (Units / 4)
	x, y := 64-k*k, 16*k
	for range n / (Units / 4) {
		x, y = -y, x
	}
	return plane.Part(api.Point{X: x, Y: y}, 64+k*k)
}

// place returns a declared place.
func (s shot) place(n int) declared {
	return declared{number: n, at: s.ball.At.Plus(unit(n).Times(2 * s.Radius))}
}

// places returns all declared places.
func (s shot) places() []declared {
	var places []declared
	for n := range Units {
		places = append(places, s.place(n))
	}
	return places
}

// why returns the reason why the ball cannot be hit at a declared place, or OK, and the first ball that blocks.
func (s shot) why(p declared) (string, api.Errno) {
	name, e := "", api.OK
	reasons := []func() api.Errno{
		func() api.Errno { return errno.If(s.Position(p.at) < 1, api.ErrOutside) },
		func() api.Errno {
			way, on := p.at.Minus(s.cue.At), s.ball.At.Minus(p.at)
			return errno.If(plane.Dot(way, on).Sign() <= 0, api.ErrRule)
		},
		func() api.Errno {
			isBlocked := false
			name, isBlocked = blocker(s.others, s.cue.At, p.at)
			return errno.If(isBlocked, api.ErrBlocked)
		},
	}
ask:
	for _, reason := range reasons {
		switch e = reason(); e {
		case api.OK:
			continue ask
		default:
			break ask
		}
	}
	return name, e
}

// isOpen reports whether the ball can be hit at a declared place.
func (s shot) isOpen(p declared) bool {
	_, e := s.why(p)
	return e == api.OK
}

// blocker returns the name of the first ball of a scene that blocks a straight way, and whether there is one.
func blocker(s scene.Scene, from, to plane.Place) (string, bool) {
	for _, ball := range s.Balls {
		if s.Blocks(ball, from, to) {
			return ball.Name, true
		}
	}
	return "", false
}

// isClear reports whether no ball but both blocks the straight way from the ball to a place.
func (s shot) isClear(to plane.Place) bool {
	_, isBlocked := blocker(s.others, s.ball.At, to)
	return !isBlocked
}

// numbersWhere returns the numbers of the elements of a list for which a condition holds.
func numbersWhere[T any](list []T, holds func(T) bool) []int {
	var numbers []int
	for i, x := range list {
		if holds(x) {
			numbers = append(numbers, i)
		}
	}
	return numbers
}
