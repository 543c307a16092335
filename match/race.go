package match

import (
	"slices"

	"baulk/api"
	"baulk/errno"
	"baulk/exact"
)

// The orders of breaks.
const (
	alternate = "alternate"
	winner    = "winner"
	loser     = "loser"
)

// orderError returns ErrKind for an order of breaks that is none.
func orderError(order string) api.Errno {
	isOrder := slices.Contains([]string{alternate, winner, loser}, order)
	return errno.If(!isOrder, api.ErrKind)
}

// nextBreaker returns who breaks after a frame, by who has broken it, and who has won it.
func nextBreaker(order string, breaker, player int) int {
	switch order {
	case winner:
		return player
	case loser:
		return 1 - player
	}
	return 1 - breaker
}

// most returns how many frames are played at most.
func (r Race) most() int { return r.Need[0] + r.Need[1] - 1 }

// results returns the frames of the results of the race: those that the first player wins, then those of the second one,
// both with ascending frames of the other player.
func (r Race) results() [][2]int {
	var list [][2]int
	for second := range r.Need[1] {
		list = append(list, [2]int{r.Need[0], second})
	}
	for first := range r.Need[0] {
		list = append(list, [2]int{first, r.Need[1]})
	}
	return list
}

// stand is how a race stands: the frames that both players have won, and who breaks the next one.
type stand [3]int

// reached returns the chances that the race ever stands so, each one in parts of the whole of the first frame, times that
// of the later ones for each other frame that has been won.
func (r Race) reached(first, later odds) map[stand]exact.Int {
	chances := map[stand]exact.Int{}
	r.play(chances, first, stand{0, 0, r.Breaker}, exact.NewInt(1))
	for i := range r.Need[0] {
		for j := range r.Need[1] {
			for breaker := range 2 {
				at := stand{i, j, breaker}
				r.play(chances, later, at, chances[at])
			}
		}
	}
	return chances
}

// play adds the chances of what the next frame leads to.
func (r Race) play(chances map[stand]exact.Int, o odds, from stand, chance exact.Int) {
	if chance.Sign() == 0 {
		return
	}
	breaker := from[2]
	for player, parts := range o.of(breaker) {
		to := from
		to[player]++
		to[2] = nextBreaker(r.Order, breaker, player)
		chances[to] = o.kept(chances[to].Plus(chance.Times(parts)))
	}
}

// outcomes are the chances of the results of a race, in the order of these, in parts of which whole make 1.
type outcomes struct {
	race  Race
	parts []exact.Int
	whole exact.Int
}

// outcomes returns the chances of the results if all frames have the same odds.
func (r Race) outcomes(o odds) outcomes { return r.outcomesAfter(o, o) }

// outcomesAfter returns the chances of the results if the first frame has odds of its own.
func (r Race) outcomesAfter(first, later odds) outcomes {
	chances := r.reached(first, later)
	powers := later.powers(r.most() - 1)
	x := outcomes{race: r, whole: later.kept(first.whole.Times(powers[r.most()-1]))}
	for _, frames := range r.results() {
		var chance exact.Int
		for breaker := range 2 {
			chance = chance.Plus(chances[stand{frames[0], frames[1], breaker}])
		}
		unplayed := r.most() - frames[0] - frames[1]
		x.parts = append(x.parts, later.kept(chance.Times(powers[unplayed])))
	}
	return x
}

// first returns the chances of the results that the first player wins, second those of the second one.
func (x outcomes) first() []exact.Int { return x.parts[:x.race.Need[1]] }

func (x outcomes) second() []exact.Int { return x.parts[x.race.Need[1]:] }

// ratio returns some parts as a number.
func (x outcomes) ratio(parts exact.Int) exact.Ratio { return exact.NewRatio(parts, x.whole) }

// chance returns the chance of the first player to win the race.
func (x outcomes) chance() exact.Ratio { return x.ratio(sum(x.first())) }

// list returns the chances of all results.
func (x outcomes) list() []exact.Ratio {
	var list []exact.Ratio
	for _, parts := range x.parts {
		list = append(list, x.ratio(parts))
	}
	return list
}

// expected returns the expected number of frames.
func (x outcomes) expected() exact.Ratio {
	var total exact.Int
	for i, frames := range x.race.results() {
		total = total.Plus(x.parts[i].Times(exact.NewInt(frames[0] + frames[1])))
	}
	return x.ratio(total)
}

// sum returns the sum of integers.
func sum(list []exact.Int) exact.Int {
	var total exact.Int
	for _, n := range list {
		total = total.Plus(n)
	}
	return total
}
