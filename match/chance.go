package match

import (
	"baulk/api"
	"baulk/errno"
	"baulk/exact"
)

// odds are the chances of the first player to win a frame, or a set, by who breaks it, in parts of which whole make 1.
// With a modulus that is not 0 of each number only its rest on division by the modulus is known.
type odds struct {
	parts   [2]exact.Int
	whole   exact.Int
	modulus exact.Int
}

// newOdds returns the odds with two chances.
func newOdds(own, other exact.Fraction) odds {
	common := own.Bottom().CommonDivisor(other.Bottom())
	times, _ := other.Bottom().Over(common)
	otherTimes, _ := own.Bottom().Over(common)
	return odds{
		parts: [2]exact.Int{own.Top().Times(times), other.Top().Times(otherTimes)},
		whole: own.Bottom().Times(times),
	}
}

// readOdds returns odds, or their error.
func readOdds(o Odds) (odds, api.Errno) {
	own, first := readChance(o.Own)
	other, second := readChance(o.Other)
	if e := errno.First(first, second); e != api.OK {
		return odds{}, e
	}
	return newOdds(own, other), api.OK
}

// readChance returns a chance, or its error.
func readChance(a api.Rat) (exact.Fraction, api.Errno) {
	x, e := exact.Read(a)
	isChance := x.Sign() >= 0 && x.Order(exact.Whole(1)) <= 0
	return x, errno.First(e, errno.If(!isChance, api.ErrRange))
}

// modulo returns the odds with a modulus.
func (o odds) modulo(modulus exact.Int) odds {
	o.modulus = modulus
	o.parts = [2]exact.Int{o.kept(o.parts[0]), o.kept(o.parts[1])}
	o.whole = o.kept(o.whole)
	return o
}

// kept returns what of a number is known.
func (o odds) kept(n exact.Int) exact.Int {
	if o.modulus.Sign() == 0 {
		return n
	}
	_, rest := n.Over(o.modulus)
	return rest
}

// of returns the chances of both players in a frame, by who breaks it.
func (o odds) of(breaker int) [2]exact.Int {
	return [2]exact.Int{o.parts[breaker], o.whole.Minus(o.parts[breaker])}
}

// powers returns the powers of whole up to the one of n.
func (o odds) powers(n int) []exact.Int {
	list := []exact.Int{exact.NewInt(1)}
	for i := range n {
		list = append(list, o.kept(list[i].Times(o.whole)))
	}
	return list
}

// A number whose denominator has more than longBits binary digits takes more time than its rest on division by a modulus.
// With twice the digits of the greatest numerator the modulus leaves another rest for each number that can be written; by
// spareBits further digits a number that cannot be written hardly ever looks like one of these.
const (
	longBits  = 16 * exact.MaxBits
	spareBits = 100
)

// written returns numbers that are computed with odds, as chances of up to so many frames, or ErrLarge.
func (o odds) written(frames int, compute func(odds) []exact.Ratio) ([]api.Rat, api.Errno) {
	if o.whole.Bits()*frames > longBits && !o.canWrite(compute) {
		return nil, api.ErrLarge
	}
	var list []api.Rat
	for _, x := range compute(o) {
		a, e := exact.Write(x.Fraction())
		if e != api.OK {
			return nil, e
		}
		list = append(list, a)
	}
	return list, api.OK
}

// writtenOne returns one such number, or ErrLarge.
func (o odds) writtenOne(frames int, compute func(odds) exact.Ratio) (api.Rat, api.Errno) {
	list, e := o.written(frames, func(o odds) []exact.Ratio { return []exact.Ratio{compute(o)} })
	if e != api.OK {
		return "", e
	}
	return list[0], api.OK
}

// canWrite reports whether numbers that are computed with odds look as if they could be written. If one of them does not,
// it is too large; to compute it would take minutes for a long match.
func (o odds) canWrite(compute func(odds) []exact.Ratio) bool {
	modulus := foreign(o.whole, 2*exact.MaxBits+spareBits)
	for _, x := range compute(o.modulo(modulus)) {
		_, value := x.Top().Times(x.Bottom().Inverse(modulus)).Over(modulus)
		if _, e := exact.Write(value.Recovered(modulus, exact.MaxBits)); e != api.OK {
			return false
		}
	}
	return true
}

// foreign returns a number of more than so many binary digits without a common divisor with n above 1.
func foreign(n exact.Int, bits int) exact.Int {
	one := exact.NewInt(1)
	// A prime that is hardly ever a factor: of a chance with many factors 2 nothing would be left modulo a power of 2.
	base := exact.NewWord(1<<64 - 59)
	for base.CommonDivisor(n).Order(one) != 0 {
		base = base.Plus(one)
	}
	power := base
	for power.Bits() <= bits {
		power = power.Times(base)
	}
	return power
}
