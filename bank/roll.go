package bank

import (
	"baulk/api"
	"baulk/errno"
	"baulk/plane"
	"baulk/table"
)

// roll is a ball that rolls on a table.
type roll struct {
	bed
	at    plane.Place
	way   plane.Place
	turns []func(way plane.Place) plane.Place // for each edge, what it makes of a direction
}

// Step returns the next rebound of a ball.
func Step(t table.Table, p, d api.Place) (Hit, api.Errno) {
	r, e := readRoll(t, p, d)
	if e != api.OK {
		return Hit{}, e
	}
	hit, end, e := r.next()
	return hit, errno.First(end.fault(), e)
}

// Walk returns the rebounds of a ball, and how its way ends.
func Walk(t table.Table, p, d api.Place, n int) ([]Hit, string, api.Errno) {
	r, e := readRoll(t, p, d)
	if e = errno.First(e, errno.If(n < 0 || n > api.MaxList, api.ErrRange)); e != api.OK {
		return nil, "", e
	}
	var hits []Hit
	for range n {
		hit, end, e := r.next()
		if e != api.OK {
			return nil, "", e
		}
		if end != none {
			return hits, end.name(), api.OK
		}
		hits = append(hits, hit)
		// What was written is in lowest terms, so that the numbers do not grow more than they must.
		r.at, _ = plane.Read(hit.At)
		r.way, _ = plane.Read(hit.Then)
	}
	return hits, "", api.OK
}

// readRoll returns a ball that rolls, or the first error.
func readRoll(t table.Table, p, d api.Place) (roll, api.Errno) {
	b, e := readTable(t)
	if e != api.OK {
		return roll{}, e
	}
	return b.readRoll(p, d)
}

// readRoll returns a ball that rolls, or the error of its place or its direction.
func (b bed) readRoll(p, d api.Place) (roll, api.Errno) {
	at, first := b.readPlace(p)
	way, second := plane.Read(d)
	isZero := d == api.Place{X: "0", Y: "0"} // each number has only one text
	e := errno.First(first, second, errno.If(isZero, api.ErrZero))
	if e != api.OK {
		return roll{}, e
	}
	r := roll{bed: b, at: at, way: way}
	for _, edge := range b.Edges() {
		if edge.Side(at) == 0 && edge.Turn(way) <= 0 {
			return roll{}, api.ErrRule
		}
		r.turns = append(r.turns, edge.Turned)
	}
	return r, api.OK
}

// next returns the next rebound, or the reason why the way ends.
func (r roll) next() (Hit, reason, api.Errno) {
	number, place, end := r.meeting()
	if end != none {
		return Hit{}, end, api.OK
	}
	at, first := place.Write()
	then, second := r.turns[number](r.way).Write()
	if e := errno.First(first, second); e != api.OK {
		return Hit{}, none, e
	}
	return Hit{Edge: number, At: at, Then: then}, none, api.OK
}

// meeting returns the edge and the place at which the ball comes to an edge, and the reason if there is no rebound.
func (r roll) meeting() (int, plane.Place, reason) {
	ahead := r.at.Plus(r.way)
	for i, edge := range r.Edges() {
		if edge.Turn(r.way) >= 0 {
			continue
		}
		at := edge.Crossing(r.at, ahead)
		if why := r.reasonAt(i, edge.Share(at)); why != beside {
			return i, at, why
		}
	}
	return 0, r.at, corner // never, as every way from a place of a table leads to an edge
}
