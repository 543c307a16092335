package bank

import (
	"baulk/api"
	"baulk/exact"
	"baulk/outline"
	"baulk/plane"
)

// reason says why there is no rebound.
type reason int

// The reasons, in the order in which they are looked for.
const (
	none reason = iota
	side
	beside
	pocket
	corner
)

// name returns the text of a reason; none has an empty one.
func (r reason) name() string { return [...]string{"", "side", "beside", "pocket", "corner"}[r] }

// fault returns the error that stands for a reason.
func (r reason) fault() api.Errno {
	switch r {
	case pocket:
		return api.ErrPocket
	case corner:
		return api.ErrCorner
	}
	return api.OK
}

// failure is the number of a rebound and the reason why there is none; its zero value is that of a path.
type failure struct {
	at  int
	why reason
}

// attempt is a word with its path, or its failure.
type attempt struct {
	word []int
	path []plane.Place
	failure
}

// route is a table with two places of a path.
type route struct {
	bed
	from plane.Place
	to   plane.Place
}

// attempt looks for the path with a word.
func (r route) attempt(word []int) attempt {
	if len(word) == 0 {
		return r.straight()
	}
	path := []plane.Place{r.from}
	// The start is mirrored at each edge, as the way is: so it is on the line of the next leg, and, unlike the place of
	// the rebound, has hardly more digits than before.
	start, images := r.from, r.images(r.to, word)
	for i, edge := range word {
		at, why := r.rebound(edge, start, images[i])
		if why != none {
			return attempt{word: word, failure: failure{at: i + 1, why: why}}
		}
		path = append(path, at)
		start = r.Edge(edge).Image(start)
	}
	return attempt{word: word, path: append(path, r.to)}
}

// straight looks for the path without rebounds, which only a pocket between two places of one edge can prevent.
func (r route) straight() attempt {
	for i, e := range r.Edges() {
		if e.Side(r.from) != 0 || e.Side(r.to) != 0 {
			continue
		}
		way := outline.Gap{Edge: i, From: e.Share(r.from), To: e.Share(r.to)}
		if way.To.Order(way.From) < 0 {
			way.From, way.To = way.To, way.From
		}
		for _, g := range r.Gaps {
			if way.Overlaps(g) {
				return attempt{failure: failure{why: pocket}}
			}
		}
	}
	return attempt{path: []plane.Place{r.from, r.to}}
}

// images returns the images of a place for a word, for the word without its first edge, and so on; the last one is the
// place.
func (b bed) images(p plane.Place, word []int) []plane.Place {
	images := make([]plane.Place, len(word)+1)
	images[len(word)] = p
	for i := len(word) - 1; i >= 0; i-- {
		images[i] = b.Edge(word[i]).Image(images[i+1])
	}
	return images
}

// rebound returns the place in which the way between two places meets an edge, or the reason why there is no rebound.
func (b bed) rebound(edge int, from, to plane.Place) (plane.Place, reason) {
	e := b.Edge(edge)
	if e.Side(from) <= 0 || e.Side(to) >= 0 {
		return plane.Place{}, side
	}
	at := e.Crossing(from, to)
	return at, b.reasonAt(edge, e.Share(at))
}

// reasonAt returns why there is no rebound at a share of the line of an edge, if there is none.
func (b bed) reasonAt(edge int, share exact.Ratio) reason {
	start, end := share.Sign(), share.Order(exact.Whole(1).Ratio())
	switch {
	case start < 0 || end > 0:
		return beside
	case b.GapAt(edge, share) >= 0:
		return pocket
	case start == 0 || end == 0:
		return corner
	}
	return none
}
