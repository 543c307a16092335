package aim_test

import (
	"fmt"
	"math/rand"
	"slices"
	"testing"

	"baulk/aim"
	"baulk/api"
	"baulk/number"
	"baulk/table"
)

// Tests of P4.5 (consequences), which hold between the results of several functions.

// readSurd returns a surd in numbers of the library, readSpot a place of surds.
func readSurd(t *testing.T, s api.Surd) surdOf {
	t.Helper()
	return surdOf{rational(t, s.A), rational(t, s.B), rational(t, s.D)}
}

func readSpot(t *testing.T, p aim.Place) surdsOf {
	t.Helper()
	return surdsOf{readSurd(t, p.X), readSurd(t, p.Y)}
}

// with returns the sum of two surds with one root.
func (s surdOf) with(u surdOf) surdOf { return surdOf{sum(s.a, u.a), sum(s.b, u.b), s.d} }

// from returns the way from a place to one of surds.
func (v surdsOf) from(p vector) surdsOf {
	return surdsOf{v[0].plus(times(whole(-1), p[0])), v[1].plus(times(whole(-1), p[1]))}
}

// scalar returns the scalar product of two vectors of surds with one root.
func (v surdsOf) scalar(w surdsOf) surdOf { return v[0].times(w[0]).with(v[1].times(w[1])) }

// wantSame reports surds that are not the same in both of their numbers.
func wantSame(t *testing.T, what string, got, wanted surdOf) {
	t.Helper()
	if got.a.Cmp(wanted.a) != 0 || got.b.Cmp(wanted.b) != 0 {
		t.Errorf("%s: got %v, want %v", what, got.text(), wanted.text())
	}
}

// someHits passes on arguments with which a ball is hit.
func someHits(t *testing.T, seed int64, f func(on table.Table, l []table.Ball, cue, name string, d api.Place)) {
	t.Helper()
	r := rand.New(rand.NewSource(seed))
	count := 0
	for range 900 {
		on := someTable(t, r)
		l := someLayout(t, r, on)
		cue := l[r.Intn(len(l))]
		d := someDirection(t, r, on, l, cue.At)
		if name, _, e := aim.First(on, l, cue.Name, d); e == api.OK {
			count++
			f(on, l, cue.Name, name, d)
		}
	}
	if count < 300 {
		t.Errorf("only %d balls are hit", count)
	}
}

func TestContactsAreTwoRadiiApart(t *testing.T) {
	someHits(t, 11, func(on table.Table, l []table.Ball, cue, name string, d api.Place) {
		place, e := aim.Hit(on, l, cue, d)
		wantError(t, "Hit", all(e), api.OK)
		at := readSpot(t, place)
		for _, b := range l {
			way := at.from(value(t, b.At))
			square := way.scalar(way)
			zero := surdOf{whole(0), whole(0), square.d}
			if b.Name == name {
				wantSame(t, fmt.Sprintf("the square of the way from %v to %s", place, name), square, zero.plus(reach(on.Radius)))
			} else if order, _ := number.SurdOrder(square.text(), zero.plus(reach(on.Radius)).text()); b.Name != cue && order < 0 {
				t.Errorf("%s overlaps %v, where %s is hit", b.Name, place, name)
			}
		}
	})
}

func TestDirectionsAreAtRightAngles(t *testing.T) {
	someHits(t, 12, func(on table.Table, l []table.Ball, cue, name string, d api.Place) {
		first, second, e := aim.After(on, l, cue, d)
		wantError(t, "After", all(e), api.OK)
		n, m, direction := readSpot(t, first), readSpot(t, second), value(t, d)
		zero := surdOf{whole(0), whole(0), n[0].d}
		wantSame(t, "the scalar product of both", n.scalar(m), zero)
		wantSame(t, "the square of n", n.scalar(n), zero.plus(reach(on.Radius)))
		// The part of d along n has the factor d n / (n n), and that along m has the factor 1.
		wantSame(t, "the scalar product of d and m", m.dot(direction), m.scalar(m))
		factor := n.dot(direction).scaled(over(whole(1), reach(on.Radius)))
		for i := range 2 {
			wantSame(t, "the sum of both parts", n[i].times(factor).with(m[i]), zero.plus(direction[i]))
		}
	})
}

func TestGhostsAreOnTheLine(t *testing.T) {
	r := rand.New(rand.NewSource(13))
	for range 500 {
		radius := 1 + r.Intn(table.MaxRadius)
		b := at(twelfths(r.Intn(999)), twelfths(r.Intn(999)))
		target := at(twelfths(r.Intn(999)), twelfths(r.Intn(999)))
		ghost, e := aim.Ghost(radius, b, target)
		wantError(t, "Ghost", all(e), api.OK)
		way := readSpot(t, ghost).from(value(t, b))
		u := minus(value(t, b), value(t, target))
		zero := surdOf{whole(0), whole(0), way[0].d}
		wantSame(t, "the square of the way to the ghost", way.scalar(way), zero.plus(reach(radius)))
		wantSame(t, "the cross product of the ways", way.cross(u), zero)
		if signOf(way.dot(u).real()) <= 0 {
			t.Errorf("the ghost %v of %v for %v is on the wrong side", ghost, b, target)
		}
	}
}

func TestPlansAreAccepted(t *testing.T) {
	r := rand.New(rand.NewSource(14))
	count, excepted := 0, 0
	for range 250 {
		s := someShot(t, r)
		for _, p := range s.Table.Pockets {
			plan, e := aim.Plan(s, p.Name)
			wantError(t, "Plan", all(e), api.OK)
			for _, n := range plan {
				to := declaredOf(t, s, n)
				isTouched := slices.ContainsFunc(s.Balls, func(b table.Ball) bool {
					way := minus(value(t, b.At), to)
					return b.Name != s.Cue && b.Name != s.Ball && dot(way, way).Cmp(reach(s.Table.Radius)) == 0
				})
				if isTouched {
					excepted++
					continue
				}
				count++
				d := text(minus(to, placeOf(t, s.Balls, s.Cue)))
				want(t, fmt.Sprintf("CheckPlan of %d for %s of %v", n, p.Name, s), all(aim.CheckPlan(s, p.Name, d)), all(api.OK))
				want(t, "Pots", all(aim.Pots(s.Table, s.Balls, s.Cue, d)), all(s.Ball, p.Name, api.OK))
				want(t, "Why", all(aim.Why(s, n)), all("", api.OK))
			}
		}
	}
	if count < 60 {
		t.Errorf("only %d plans, and %d with a ball that is touched, too", count, excepted)
	}
}

func TestBallsTakenAwayHideNothing(t *testing.T) {
	r := rand.New(rand.NewSource(15))
	hidden := 0
	for range 300 {
		s := someShot(t, r)
		open, _ := aim.Open(s)
		proof, e := aim.Hidden(s)
		if (e == api.OK) != (len(open) == 0) {
			t.Errorf("the ball of %v can be hit at %v, and Hidden has the error %d", s, open, e)
		}
		for n, name := range proof {
			if name == "" {
				continue
			}
			hidden++
			less := s
			less.Balls = without(s.Balls, name)
			again, e := aim.Why(less, n)
			if again == name || e != api.OK && e != api.ErrBlocked {
				t.Errorf("without %s the place %d is hidden by %q with the error %d", name, n, again, e)
			}
			want(t, "CheckHidden without "+name, all(aim.CheckHidden(less, proof)), all(api.ErrUnknown))
		}
		bare := s
		bare.Balls = slices.DeleteFunc(slices.Clone(s.Balls), func(b table.Ball) bool { return b.Name != s.Cue && b.Name != s.Ball })
		all, _ := aim.Open(bare)
		for n := range aim.Units {
			_, e := aim.Why(s, n)
			if wanted := e == api.OK || e == api.ErrBlocked; slices.Contains(all, n) != wanted {
				t.Errorf("without other balls the ball can be hit at %v, and at %d there is the error %d with them", all, n, e)
			}
		}
	}
	if hidden < 100 {
		t.Errorf("only %d places are hidden", hidden)
	}
}

// moved returns the place that a move makes of one of surds, without the last way.
func moved(v surdsOf, m table.Move) surdsOf {
	if m.Mirror {
		v[0] = v[0].scaled(whole(-1))
	}
	for range m.Quarters {
		v[0], v[1] = v[1].scaled(whole(-1)), v[0]
	}
	return v
}

func TestMirroredShots(t *testing.T) {
	r := rand.New(rand.NewSource(16))
	someHits(t, 16, func(on table.Table, l []table.Ball, cue, name string, d api.Place) {
		m := table.Move{Mirror: r.Intn(4) > 0, Quarters: r.Intn(4), By: api.Point{X: r.Intn(9) - 4, Y: r.Intn(9) - 4}}
		onto, first := table.Changed(on, m)
		to, second := table.Carried(on, l, m)
		want(t, "the move", all(first, second), all(api.OK, api.OK))
		zero := surdOf{whole(0), whole(0), whole(0)}
		v := moved(surdsOf{zero, zero}.from(minus(vector{whole(0), whole(0)}, value(t, d))), m)
		along := text(vector{v[0].a, v[1].a})
		want(t, "First", all(aim.First(onto, to, cue, along)), all(aim.First(on, l, cue, d)))
		place, _ := aim.Hit(on, l, cue, d)
		wanted := moved(readSpot(t, place), m).from(minus(vector{whole(0), whole(0)}, corner(m.By)))
		want(t, "Hit", all(aim.Hit(onto, to, cue, along)), all(wanted.text(), api.OK))
		n, k, _ := aim.After(on, l, cue, d)
		want(t, "After", all(aim.After(onto, to, cue, along)), all(moved(readSpot(t, n), m).text(), moved(readSpot(t, k), m).text(), api.OK))
		edge, share, _ := aim.Entry(on, l, cue, d)
		s := readSurd(t, share)
		if v := s.real(); signOf(v) == 0 || signOf(lessR(v, realOf(whole(1)))) == 0 {
			return // a corner, which belongs to the edge with the lesser number
		}
		if m.Mirror {
			edge, s = len(on.Corners)-1-edge, s.scaled(whole(-1)).plus(whole(1))
		}
		want(t, "Entry", all(aim.Entry(onto, to, cue, along)), all(edge, s.text(), api.OK))
		want(t, "Pots", all(aim.Pots(onto, to, cue, along)), all(aim.Pots(on, l, cue, d)))
	})
}
