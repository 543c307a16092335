package number

import (
	"cmp"
	"slices"
	"strconv"

	"baulk/api"
)

// The numbers of a drawn order follow each other by a factor, modulo a prime.
const (
	drawFactor = 16807
	drawPrime  = 2147483647
)

// Shares divides an integer by weights.
func Shares(total int, weights []int) ([]int, api.Errno) {
	if total < 0 || total > api.MaxNumber {
		return nil, api.ErrRange
	}
	sum, e := sumOfWeights(weights)
	if e != api.OK {
		return nil, e
	}
	shares := make([]int, len(weights))
	rests := make([]int64, len(weights))
	left := total
	for i, w := range weights {
		part := int64(total) * int64(w)
		shares[i], rests[i] = int(part/sum), part%sum
		left -= shares[i]
	}
	for _, i := range byGreatestRest(rests)[:left] {
		shares[i]++
	}
	return shares, api.OK
}

// sumOfWeights returns the sum of weights, or their error.
func sumOfWeights(weights []int) (int64, api.Errno) {
	if len(weights) == 0 {
		return 0, api.ErrEmpty
	}
	if len(weights) > api.MaxList {
		return 0, api.ErrMany
	}
	var sum int64
	for _, w := range weights {
		if w < 0 || w > api.MaxNumber {
			return 0, api.ErrRange
		}
		sum += int64(w)
	}
	if sum == 0 {
		return 0, api.ErrZero
	}
	return sum, api.OK
}

// byGreatestRest returns the indices of remainders, the greatest one first, of equal ones the earlier one first.
func byGreatestRest(rests []int64) []int {
	order := ascending(len(rests))
	slices.SortStableFunc(order, func(i, j int) int { return cmp.Compare(rests[j], rests[i]) })
	return order
}

// ascending returns the numbers from 0 to n - 1.
func ascending(n int) []int {
	list := make([]int, n)
	for i := range list {
		list[i] = i
	}
	return list
}

// Draw returns a drawn order of n elements.
func Draw(key, n int) ([]int, api.Errno) {
	if key < 1 || key >= drawPrime || n < 0 || n > api.MaxList {
		return nil, api.ErrRange
	}
	order := ascending(n)
	x := int64(key)
	for i := n - 1; i >= 1; i-- {
		x = drawFactor * x % drawPrime
		j := int(x % int64(i+1))
		order[i], order[j] = order[j], order[i]
	}
	return order, api.OK
}

// Binomial returns the number of sets of k of n elements.
func Binomial(n, k int) (api.Rat, api.Errno) {
	if n < 0 || n > MaxSet || k < 0 || k > n {
		return "", api.ErrRange
	}
	// The greatest one, of 64 and 32, is below 2 to the power of 61.
	var row [MaxSet + 1]int64
	row[0] = 1
	for i := 1; i <= n; i++ {
		for j := i; j > 0; j-- {
			row[j] += row[j-1]
		}
	}
	return api.Rat(strconv.FormatInt(row[k], 10)), api.OK
}
