// Package scene has tables and their balls, checked by package table, with their numbers read.
package scene

import (
	"slices"

	"baulk/api"
	"baulk/errno"
	"baulk/exact"
	"baulk/outline"
	"baulk/plane"
	"baulk/table"
)

// Scene is a table with balls.
type Scene struct {
	outline.Outline
	Radius int
	Balls  []Ball
}

// Ball is a ball on a table.
type Ball struct {
	Name string
	At   plane.Place
}

// ReadTable returns a table without balls, or its error.
func ReadTable(t table.Table) (Scene, api.Errno) {
	if e := table.CheckTable(t); e != api.OK {
		return Scene{}, e
	}
	return bare(t), api.OK
}

// ReadLayout returns a table with balls, or their error.
func ReadLayout(t table.Table, l []table.Ball) (Scene, api.Errno) {
	if e := table.CheckLayout(t, l); e != api.OK {
		return Scene{}, e
	}
	s := bare(t)
	for _, ball := range l {
		at, _ := plane.Read(ball.At)
		s.Balls = append(s.Balls, Ball{Name: ball.Name, At: at})
	}
	return s, api.OK
}

// bare returns a table that has no error, without balls.
func bare(t table.Table) Scene {
	s := Scene{Outline: outline.Outline{Corners: t.Corners}, Radius: t.Radius}
	for _, p := range t.Pockets {
		from, _ := exact.Read(p.From)
		to, _ := exact.Read(p.To)
		s.Gaps = append(s.Gaps, outline.Gap{Edge: p.Edge, From: from.Ratio(), To: to.Ratio()})
	}
	return s
}

// ReadWithin returns a place that is not outside of the table, or its error.
func (s Scene) ReadWithin(p api.Place) (plane.Place, api.Errno) {
	at, e := plane.Read(p)
	return at, errno.First(e, errno.If(s.Position(at) < 0, api.ErrOutside))
}

// Without returns the scene without the balls with some names.
func (s Scene) Without(names ...string) Scene {
	s.Balls = slices.DeleteFunc(slices.Clone(s.Balls), func(b Ball) bool { return slices.Contains(names, b.Name) })
	return s
}

// Blocks reports whether a ball is less than two radii from the straight way between two places.
func (s Scene) Blocks(b Ball, from, to plane.Place) bool {
	return plane.Gap(from, to, b.At).Order(exact.Whole(s.Reach()).Ratio()) < 0
}

// Reach returns the square of two radii.
func (s Scene) Reach() int { return 4 * s.Radius * s.Radius }
