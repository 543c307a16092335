package snooker

import (
	"baulk/api"
	"baulk/errno"
	"baulk/exact"
	"baulk/plane"
)

// maxSpots is how many spots there can be: as many as colours.
const maxSpots = 6

// site is where a colour is to be spotted.
type site struct {
	spots    []plane.Place
	balls    []plane.Place
	own      int // the number of the spot of the colour
	along    plane.Place
	diameter exact.Fraction
}

// readSite returns a site, or the first error.
func readSite(spots, balls []api.Place, own int, along api.Place, diameter api.Rat) (site, api.Errno) {
	e := errno.First(
		errno.If(len(spots) == 0, api.ErrEmpty),
		errno.If(len(spots) > maxSpots || len(balls) > api.MaxBalls, api.ErrMany),
	)
	if e != api.OK {
		return site{}, e
	}
	s := site{own: own}
	var first, second, third, fourth api.Errno
	s.spots, first = readPlaces(spots)
	s.balls, second = readPlaces(balls)
	s.along, third = plane.Read(along)
	s.diameter, fourth = exact.Read(diameter)
	isZero := along == api.Place{X: "0", Y: "0"} // each number has only one text
	return s, errno.First(
		first,
		second,
		errno.If(own < 0 || own >= len(spots), api.ErrUnknown),
		third,
		errno.If(isZero, api.ErrZero),
		fourth,
		errno.If(s.diameter.Sign() <= 0, api.ErrRange),
	)
}

// readPlaces returns places, or the error of the first one with one.
func readPlaces(l []api.Place) ([]plane.Place, api.Errno) {
	var places []plane.Place
	for _, p := range l {
		at, e := plane.Read(p)
		if e != api.OK {
			return nil, e
		}
		places = append(places, at)
	}
	return places, api.OK
}

// freeSpot returns the number of the spot on which the colour is put, and whether one is free.
func (s site) freeSpot() (int, bool) {
	numbers := []int{s.own}
	for i := len(s.spots) - 1; i >= 0; i-- {
		numbers = append(numbers, i)
	}
	reach := s.diameter.Times(s.diameter).Ratio()
search:
	for _, i := range numbers {
		for _, ball := range s.balls {
			if plane.Distance(s.spots[i], ball).Order(reach) < 0 {
				continue search
			}
		}
		return i, true
	}
	return 0, false
}
