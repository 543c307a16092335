package bank

import (
	"baulk/api"
	"baulk/errno"
	"baulk/plane"
	"baulk/scene"
	"baulk/table"
)

// bed is a table, which has balls only where these may block a path.
type bed struct {
	scene.Scene
}

// readTable returns a table, or its error.
func readTable(t table.Table) (bed, api.Errno) {
	s, e := scene.ReadTable(t)
	return bed{s}, e
}

// readRoute returns a table with two places of a path, or the first error.
func readRoute(t table.Table, from, to api.Place) (route, api.Errno) {
	b, e := readTable(t)
	if e != api.OK {
		return route{}, e
	}
	return b.readRoute(from, to)
}

// readRoute returns two places of a path, or the error of the first one with one.
func (b bed) readRoute(from, to api.Place) (route, api.Errno) {
	p, first := b.readPlace(from)
	q, second := b.readPlace(to)
	if e := errno.First(first, second); e != api.OK {
		return route{}, e
	}
	return route{bed: b, from: p, to: q}, api.OK
}

// readPlace returns a place of a path, or its error.
func (b bed) readPlace(p api.Place) (plane.Place, api.Errno) {
	at, e := b.ReadWithin(p)
	if e != api.OK {
		return plane.Place{}, e
	}
	for i, edge := range b.Edges() {
		if edge.Side(at) != 0 {
			continue
		}
		if e := b.reasonAt(i, edge.Share(at)).fault(); e != api.OK {
			return plane.Place{}, e
		}
	}
	return at, api.OK
}

// wordError returns the error of a word.
func (b bed) wordError(word []int) api.Errno {
	if len(word) > api.MaxBanks {
		return api.ErrMany
	}
	for i, edge := range word {
		switch {
		case !b.HasEdge(edge):
			return api.ErrUnknown
		case i > 0 && edge == word[i-1]:
			return api.ErrTwice
		}
	}
	return api.OK
}
