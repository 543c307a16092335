package aim_test

import (
	"math/big"
	"slices"
	"testing"

	"baulk/aim"
	"baulk/api"
	"baulk/table"
)

// The definitions of the chapter, computed literally: what is written as numbers of the library, and what is only
// compared as reals with so many binary digits that a very small difference is none.

// precision is the number of these digits.
const precision = 1000

// reals is a vector of reals.
type reals [2]*big.Float

// realOf returns a number of the library as a real.
func realOf(x *big.Rat) *big.Float { return new(big.Float).SetPrec(precision).SetRat(x) }

// signOf returns -1, 0 or 1.
func signOf(x *big.Float) int {
	if x.Sign() != 0 && x.MantExp(nil) < -precision/3 {
		return 0
	}
	return x.Sign()
}

// sumR and the like compute with reals.
func sumR(x, y *big.Float) *big.Float   { return new(big.Float).Add(x, y) }
func lessR(x, y *big.Float) *big.Float  { return new(big.Float).Sub(x, y) }
func timesR(x, y *big.Float) *big.Float { return new(big.Float).Mul(x, y) }
func overR(x, y *big.Float) *big.Float  { return new(big.Float).Quo(x, y) }
func rootR(x *big.Float) *big.Float     { return new(big.Float).Sqrt(x) }
func dotR(u, v reals) *big.Float        { return sumR(timesR(u[0], v[0]), timesR(u[1], v[1])) }
func crossR(u, v reals) *big.Float      { return lessR(timesR(u[0], v[1]), timesR(u[1], v[0])) }
func realsOf(v vector) reals            { return reals{realOf(v[0]), realOf(v[1])} }

// surdOf is a surd in numbers of the library.
type surdOf struct{ a, b, d *big.Rat }

func (s surdOf) real() *big.Float { return sumR(realOf(s.a), timesR(realOf(s.b), rootR(realOf(s.d)))) }

func (s surdOf) text() api.Surd {
	return surd(api.Rat(s.a.RatString()), api.Rat(s.b.RatString()), api.Rat(s.d.RatString()))
}

func (s surdOf) plus(n *big.Rat) surdOf { return surdOf{sum(s.a, n), s.b, s.d} }

func (s surdOf) scaled(n *big.Rat) surdOf { return surdOf{times(s.a, n), times(s.b, n), s.d} }

func (s surdOf) times(u surdOf) surdOf {
	return surdOf{sum(times(s.a, u.a), times(s.b, u.b, s.d)), sum(times(s.a, u.b), times(s.b, u.a)), s.d}
}

// under returns a number divided by the surd.
func (s surdOf) under(n *big.Rat) surdOf {
	norm := less(times(s.a, s.a), times(s.b, s.b, s.d))
	if norm.Sign() == 0 {
		return surdOf{over(n, times(whole(2), s.a)), new(big.Rat), s.d}
	}
	return surdOf{over(times(n, s.a), norm), over(times(whole(-1), n, s.b), norm), s.d}
}

// surdsOf is a vector of surds with one root.
type surdsOf [2]surdOf

func (v surdsOf) reals() reals { return reals{v[0].real(), v[1].real()} }

func (v surdsOf) text() aim.Place { return aim.Place{X: v[0].text(), Y: v[1].text()} }

func (v surdsOf) dot(w vector) surdOf {
	return surdOf{sum(times(v[0].a, w[0]), times(v[1].a, w[1])), sum(times(v[0].b, w[0]), times(v[1].b, w[1])), v[0].d}
}

func (v surdsOf) cross(w vector) surdOf { return v.dot(vector{w[1], times(whole(-1), w[0])}) }

// reach returns the square of two radii.
func reach(radius int) *big.Rat { return whole(4 * radius * radius) }

// meets returns s for a ball that goes from p in a direction and hits one at b, and whether it does.
func meets(radius int, p vector, d reals, b vector) (*big.Float, bool) {
	w := minus(b, p)
	along, square := dotR(realsOf(w), d), dotR(d, d)
	root := lessR(timesR(along, along), timesR(square, realOf(less(dot(w, w), reach(radius)))))
	if dot(w, w).Cmp(reach(radius)) < 0 || signOf(along) <= 0 || signOf(root) <= 0 {
		return nil, false
	}
	return lessR(overR(along, square), overR(rootR(root), square)), true
}

// edgeOf returns the beginning of an edge, and the way along it.
func edgeOf(on table.Table, edge int) (from, along vector) {
	from = corner(on.Corners[edge])
	return from, minus(corner(on.Corners[(edge+1)%len(on.Corners)]), from)
}

// endOf returns the edge at which the way from p in a direction ends, and s there.
func endOf(on table.Table, p vector, d reals) (int, *big.Float) {
	end, least := -1, new(big.Float)
	for edge := range on.Corners {
		from, along := edgeOf(on, edge)
		side := crossR(realsOf(along), d)
		if signOf(side) >= 0 {
			continue
		}
		s := overR(realOf(cross(along, minus(p, from))), new(big.Float).Neg(side))
		if end < 0 || signOf(lessR(s, least)) < 0 {
			end, least = edge, s
		}
	}
	return end, least
}

// pocketOf returns the name of the first pocket that has a share of an edge, or an empty text.
func pocketOf(on table.Table, edge int, share *big.Float) string {
	n := len(on.Corners)
	has := func(p table.Pocket, edge int, share *big.Float) bool {
		from, _ := new(big.Rat).SetString(string(p.From))
		to, _ := new(big.Rat).SetString(string(p.To))
		return p.Edge == edge && signOf(lessR(share, realOf(from))) >= 0 && signOf(lessR(share, realOf(to))) <= 0
	}
	isStart, isEnd := signOf(share) == 0, signOf(lessR(share, realOf(whole(1)))) == 0
	for _, p := range on.Pockets {
		if has(p, edge, share) || isStart && has(p, (edge+n-1)%n, realOf(whole(1))) || isEnd && has(p, (edge+1)%n, realOf(whole(0))) {
			return p.Name
		}
	}
	return ""
}

// collision is what happens at the first contact; its zero value is that none does.
type collision struct {
	name   string
	s      surdOf
	place  surdsOf
	n, m   surdsOf
	edge   int
	share  surdOf
	pocket string
	// isBlocked says that another ball than both is hit by the ball that is hit, before its way ends.
	isBlocked bool
}

// firstOf returns the first ball that is hit from p in a direction, of those whose names are not excepted, and its s.
func firstOf(t *testing.T, on table.Table, l []table.Ball, p vector, d reals, except ...string) (string, vector) {
	t.Helper()
	name, found, least := "", vector{}, new(big.Float)
	_, end := endOf(on, p, d)
	for _, b := range l {
		if slices.Contains(except, b.Name) {
			continue
		}
		s, ok := meets(on.Radius, p, d, value(t, b.At))
		if ok && signOf(lessR(s, end)) < 0 && (name == "" || signOf(lessR(s, least)) < 0) {
			name, found, least = b.Name, value(t, b.At), s
		}
	}
	return name, found
}

// collide returns what happens when a ball goes from p in a direction; cue is the name of this ball.
func collide(t *testing.T, on table.Table, l []table.Ball, cue string, p, d vector) collision {
	t.Helper()
	name, b := firstOf(t, on, l, p, realsOf(d), cue)
	if name == "" {
		return collision{}
	}
	c := collision{name: name}
	w, four := minus(b, p), reach(on.Radius)
	along, square := dot(w, d), dot(d, d)
	root := less(times(along, along), times(square, less(dot(w, w), four)))
	c.s = surdOf{over(along, square), over(whole(-1), square), root}
	for i := range 2 {
		c.place[i] = c.s.scaled(d[i]).plus(p[i])
		across := less(w[i], over(times(along, d[i]), square))
		c.n[i] = surdOf{across, over(d[i], square), root}
		c.m[i] = surdOf{less(d[i], over(times(d[i], root), times(four, square))), over(times(whole(-1), across), four), root}
	}
	c.edge, _ = endOf(on, b, c.n.reals())
	from, e := edgeOf(on, c.edge)
	s := c.n.cross(e).under(cross(e, minus(b, from)))
	c.share = s.times(c.n.dot(e)).plus(dot(minus(b, from), e)).scaled(over(whole(1), dot(e, e)))
	c.pocket = pocketOf(on, c.edge, c.share.real())
	blocker, _ := firstOf(t, on, l, b, c.n.reals(), cue, name)
	c.isBlocked = blocker != ""
	return c
}

// blocks reports whether a ball at b blocks the straight way from p to q.
func blocks(radius int, p, q, b vector) bool {
	way, part := minus(q, p), minus(b, p)
	share := new(big.Rat)
	if dot(way, way).Sign() > 0 {
		share = over(dot(way, part), dot(way, way))
	}
	if share.Sign() < 0 {
		share = new(big.Rat)
	} else if share.Cmp(whole(1)) > 0 {
		share = whole(1)
	}
	gap := minus(b, plus(p, share, way))
	return dot(gap, gap).Cmp(reach(radius)) < 0
}

// blockerOf returns the name of the first ball that blocks a straight way, but for those with some names.
func blockerOf(t *testing.T, on table.Table, l []table.Ball, p, q vector, except ...string) string {
	t.Helper()
	for _, b := range l {
		if !slices.Contains(except, b.Name) && blocks(on.Radius, p, q, value(t, b.At)) {
			return b.Name
		}
	}
	return ""
}

// unitOf returns a declared unit vector.
func unitOf(n int) vector {
	k := n % 8
	u := vector{big.NewRat(int64(64-k*k), int64(64+k*k)), big.NewRat(int64(16*k), int64(64+k*k))}
	for range n / 8 {
		u = vector{times(whole(-1), u[1]), u[0]}
	}
	return u
}

// placeOf returns the place of a ball with a name.
func placeOf(t *testing.T, l []table.Ball, name string) vector {
	t.Helper()
	for _, b := range l {
		if b.Name == name {
			return value(t, b.At)
		}
	}
	t.Fatalf("no ball %s", name)
	return vector{}
}

// declaredOf returns a declared place of a shot.
func declaredOf(t *testing.T, s aim.Shot, n int) vector {
	t.Helper()
	return plus(placeOf(t, s.Balls, s.Ball), whole(2*s.Table.Radius), unitOf(n))
}

// whyOf returns the reason why the ball of a shot cannot be hit at a declared place, and the ball that blocks.
func whyOf(t *testing.T, s aim.Shot, n int) (string, api.Errno) {
	t.Helper()
	from, to, p := placeOf(t, s.Balls, s.Cue), placeOf(t, s.Balls, s.Ball), declaredOf(t, s, n)
	for edge := range s.Table.Corners {
		start, along := edgeOf(s.Table, edge)
		if cross(along, minus(p, start)).Sign() <= 0 {
			return "", api.ErrOutside
		}
	}
	if dot(minus(p, from), minus(to, p)).Sign() <= 0 {
		return "", api.ErrRule
	}
	if name := blockerOf(t, s.Table, s.Balls, from, p, s.Cue, s.Ball); name != "" {
		return name, api.ErrBlocked
	}
	return "", api.OK
}
