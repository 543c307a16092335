package aim

import (
	"baulk/api"
	"baulk/errno"
	"baulk/plane"
	"baulk/scene"
	"baulk/table"
)

// radiusError returns the error of a radius.
func radiusError(radius int) api.Errno {
	return errno.If(radius < 1 || radius > table.MaxRadius, api.ErrRange)
}

// readDirection returns a direction, or its error.
func readDirection(d api.Place) (plane.Place, api.Errno) {
	to, e := plane.Read(d)
	isZero := d == api.Place{X: "0", Y: "0"} // each number has only one text
	return to, errno.First(e, errno.If(isZero, api.ErrZero))
}

// readContact returns a stroke with its first contact, or the first error.
func readContact(t table.Table, l []table.Ball, cue string, direction api.Place) (stroke, contact, api.Errno) {
	all, e := scene.ReadLayout(t, l)
	if e != api.OK {
		return stroke{}, contact{}, e
	}
	ball, isKnown := byName(all)[cue]
	to, e := readDirection(direction)
	if e = errno.First(errno.If(!isKnown, api.ErrUnknown), e); e != api.OK {
		return stroke{}, contact{}, e
	}
	s := stroke{Scene: all.Without(cue), from: ball.At, direction: to}
	c, ok := s.first()
	return s, c, errno.If(!ok, api.ErrNone)
}

// byName returns the balls of a scene by their names.
func byName(s scene.Scene) map[string]scene.Ball {
	balls := map[string]scene.Ball{}
	for _, ball := range s.Balls {
		balls[ball.Name] = ball
	}
	return balls
}
