package table

import (
	"cmp"
	"slices"
	"strings"

	"baulk/api"
	"baulk/errno"
	"baulk/number"
	"baulk/plane"
)

// Changed returns a table after a move.
func Changed(t Table, m Move) (Table, api.Errno) {
	if e := CheckTable(t); e != api.OK {
		return Table{}, e
	}
	corners, e := m.corners(t.Corners)
	if e != api.OK {
		return Table{}, e
	}
	pockets, first := changed(t.Pockets, func(p Pocket) (Pocket, api.Errno) { return m.pocket(p, len(corners)) })
	spots, second := changed(t.Spots, m.spot)
	if e := errno.First(first, second); e != api.OK {
		return Table{}, e
	}
	return Table{Corners: corners, Radius: t.Radius, Pockets: pockets, Spots: spots}, api.OK
}

// Carried returns the balls of a table after a move.
func Carried(t Table, l []Ball, m Move) ([]Ball, api.Errno) {
	if e := CheckLayout(t, l); e != api.OK {
		return nil, e
	}
	if _, e := m.corners(t.Corners); e != api.OK {
		return nil, e
	}
	return changed(l, m.ball)
}

// changed returns a list with a change of each element, or the error of the first one that has one.
func changed[T, U any](list []T, change func(T) (U, api.Errno)) ([]U, api.Errno) {
	result := make([]U, len(list))
	for i, x := range list {
		y, e := change(x)
		if e != api.OK {
			return nil, e
		}
		result[i] = y
	}
	return result, api.OK
}

// axes returns what a move makes of the unit vectors of both axes, before it adds its way.
func (m Move) axes() (x, y api.Point) {
	x, y = api.Point{X: 1}, api.Point{Y: 1}
	if m.Mirror {
		x.X = -1
	}
	return turned(x, m.Quarters), turned(y, m.Quarters)
}

// corners returns the corners of a table after a move, or ErrRange.
func (m Move) corners(corners []api.Point) ([]api.Point, api.Errno) {
	if isFar(m.By) {
		return nil, api.ErrRange
	}
	x, y := m.axes()
	result, e := changed(corners, func(p api.Point) (api.Point, api.Errno) {
		p = api.Point{X: p.X*x.X + p.Y*y.X + m.By.X, Y: p.X*x.Y + p.Y*y.Y + m.By.Y}
		return p, errno.If(isFar(p), api.ErrRange)
	})
	if e != api.OK {
		return nil, e
	}
	if m.Mirror {
		slices.Reverse(result[1:])
	}
	return result, api.OK
}

// place returns a place after a move, or ErrLarge.
func (m Move) place(p api.Place) (api.Place, api.Errno) {
	at, e := plane.Read(p)
	if e != api.OK {
		return api.Place{}, e
	}
	x, y := m.axes()
	return at.Moved(x, y, m.By).Write()
}

func (m Move) spot(s Spot) (Spot, api.Errno) {
	at, e := m.place(s.At)
	return Spot{Name: s.Name, At: at}, e
}

func (m Move) ball(b Ball) (Ball, api.Errno) {
	at, e := m.place(b.At)
	return Ball{Name: b.Name, At: at}, e
}

// pocket returns a pocket of a table with some edges after a move.
func (m Move) pocket(p Pocket, edges int) (Pocket, api.Errno) {
	if !m.Mirror {
		return p, api.OK
	}
	from, first := number.Sub("1", p.To)
	to, second := number.Sub("1", p.From)
	return Pocket{Name: p.Name, Edge: edges - 1 - p.Edge, From: from, To: to}, errno.First(first, second)
}

// Normal returns the normal form of a table.
func Normal(t Table) (Table, api.Errno) {
	if e := CheckTable(t); e != api.OK {
		return Table{}, e
	}
	return normal(t), api.OK
}

// Alike reports whether two tables are the same, however their corners and lists begin.
func Alike(a, b Table) (bool, api.Errno) {
	if e := CheckTable(a); e != api.OK {
		return false, e
	}
	if e := CheckTable(b); e != api.OK {
		return false, e
	}
	return isSame(normal(a), normal(b)), api.OK
}

// normal returns the normal form of a table without errors.
func normal(t Table) Table {
	n := len(t.Corners)
	least := slices.MinFunc(t.Corners, func(a, b api.Point) int {
		return cmp.Or(cmp.Compare(a.X, b.X), cmp.Compare(a.Y, b.Y))
	})
	start := slices.Index(t.Corners, least)
	pockets := slices.Clone(t.Pockets)
	for i := range pockets {
		pockets[i].Edge = (pockets[i].Edge - start + n) % n
	}
	slices.SortFunc(pockets, func(a, b Pocket) int {
		shares, _ := number.Order(a.From, b.From)
		return cmp.Or(cmp.Compare(a.Edge, b.Edge), shares)
	})
	spots := slices.Clone(t.Spots)
	slices.SortFunc(spots, func(a, b Spot) int { return strings.Compare(a.Name, b.Name) })
	return Table{
		Corners: slices.Concat(t.Corners[start:], t.Corners[:start]),
		Radius:  t.Radius,
		Pockets: pockets,
		Spots:   spots,
	}
}

// isSame reports whether two tables have the same parts in the same order.
func isSame(a, b Table) bool {
	return slices.Equal(a.Corners, b.Corners) &&
		a.Radius == b.Radius &&
		slices.Equal(a.Pockets, b.Pockets) &&
		slices.EqualFunc(a.Spots, b.Spots, func(s, u Spot) bool {
			return s.Name == u.Name && coordinates(s.At) == coordinates(u.At)
		})
}

// coordinates returns the numbers of a place. Each number has one text, so places are equal if these are.
func coordinates(p api.Place) [2]api.Rat { return [2]api.Rat{p.X, p.Y} }
