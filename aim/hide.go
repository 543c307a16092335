package aim

import (
	"baulk/api"
	"baulk/errno"
	"baulk/scene"
	"baulk/table"
)

// Clear returns the first ball that blocks a straight way.
func Clear(t table.Table, l []table.Ball, way [2]api.Place, except []string) (string, api.Errno) {
	s, e := scene.ReadLayout(t, l)
	if e != api.OK {
		return "", e
	}
	from, first := s.ReadWithin(way[0])
	to, second := s.ReadWithin(way[1])
	if e := errno.First(first, second, exceptError(s, except)); e != api.OK {
		return "", e
	}
	name, _ := blocker(s.Without(except...), from, to)
	return name, api.OK
}

// exceptError returns the error of the names of balls that do not matter.
func exceptError(s scene.Scene, names []string) api.Errno {
	if len(names) > api.MaxBalls {
		return api.ErrMany
	}
	known := byName(s)
	for _, name := range names {
		if _, isKnown := known[name]; !isKnown {
			return api.ErrUnknown
		}
	}
	return api.OK
}

// CheckShot returns the first error of a shot, or OK.
func CheckShot(s Shot) api.Errno {
	_, e := readShot(s)
	return e
}

// Why returns OK for a declared place at which the ball can be hit, or the reason why it cannot, and the ball that blocks.
func Why(s Shot, n int) (string, api.Errno) {
	read, e := readShot(s)
	if e = errno.First(e, errno.If(!isUnit(n), api.ErrUnknown)); e != api.OK {
		return "", e
	}
	return read.why(read.place(n))
}

// Open returns the declared places at which the ball can be hit.
func Open(s Shot) ([]int, api.Errno) {
	read, e := readShot(s)
	if e != api.OK {
		return nil, e
	}
	return numbersWhere(read.places(), read.isOpen), api.OK
}

// Hidden returns for each declared place the ball that blocks it, if the ball cannot be hit at any of them.
func Hidden(s Shot) ([]string, api.Errno) {
	read, e := readShot(s)
	if e != api.OK {
		return nil, e
	}
	var names []string
	for _, p := range read.places() {
		name, e := read.why(p)
		if e == api.OK {
			return nil, api.ErrNone
		}
		names = append(names, name)
	}
	return names, api.OK
}

// CheckHidden returns OK for such balls.
func CheckHidden(s Shot, l []string) api.Errno {
	read, e := readShot(s)
	if e = errno.First(e, errno.If(len(l) != Units, api.ErrShape)); e != api.OK {
		return e
	}
	for n, name := range l {
		if e := read.proofError(read.place(n), name); e != api.OK {
			return e
		}
	}
	return api.OK
}

// proofError returns the error of the name of a ball, or of an empty one, that is to prove that the ball cannot be hit at
// a declared place.
func (s shot) proofError(p declared, name string) api.Errno {
	_, e := s.why(p)
	isBarred := e == api.ErrOutside || e == api.ErrRule
	ball, isKnown := s.known[name]
	switch {
	case name == "":
		return errno.If(!isBarred, api.ErrProof)
	case !isKnown:
		return api.ErrUnknown
	}
	isProof := !isBarred && !s.isOneOfBoth(name) && s.Blocks(ball, s.cue.At, p.at)
	return errno.If(!isProof, api.ErrProof)
}
