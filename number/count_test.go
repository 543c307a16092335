package number_test

import (
	"math"
	"math/big"
	"math/rand"
	"slices"
	"testing"

	"baulk/api"
	"baulk/number"
)

// Tests of P1.5 (counts and equations): shares, drawn orders and binomials.

func TestShares(t *testing.T) {
	for _, row := range []struct {
		total   int
		weights []int
		shares  []int
	}{
		{100, []int{1, 2, 4}, []int{14, 29, 57}}, {10, []int{1, 1, 1, 0}, []int{4, 3, 3, 0}}, {0, []int{3, 4}, []int{0, 0}}, {7, []int{5}, []int{7}},
		{5, []int{0, 0, 9}, []int{0, 0, 5}}, {7, []int{3, 2, 3, 2}, []int{2, 2, 2, 1}}, {2, []int{1, 1, 1, 1}, []int{1, 1, 0, 0}},
		{3, []int{2, 2, 2, 1, 1}, []int{1, 1, 1, 0, 0}}, {11, []int{5, 3, 1, 7}, []int{3, 2, 1, 5}}, {0, []int{api.MaxNumber, 1}, []int{0, 0}},
		{api.MaxNumber, []int{api.MaxNumber, api.MaxNumber}, []int{500000000, 499999999}},
		{api.MaxNumber, []int{1, api.MaxNumber, 1}, []int{1, 999999997, 1}},
	} {
		wantList(t, "Shares", both(number.Shares(row.total, row.weights)), row.shares, api.OK)
	}
}

func TestErrorsOfShares(t *testing.T) {
	many := slices.Repeat([]int{1}, api.MaxList+1)
	for _, row := range []struct {
		total   int
		weights []int
		e       api.Errno
	}{
		{-1, nil, api.ErrRange}, {api.MaxNumber + 1, nil, api.ErrRange}, {math.MinInt, []int{0}, api.ErrRange}, {math.MaxInt, []int{1}, api.ErrRange},
		{5, nil, api.ErrEmpty}, {5, []int{}, api.ErrEmpty}, {5, many, api.ErrMany}, {5, append(slices.Clone(many), -1), api.ErrMany},
		{5, []int{0, -1}, api.ErrRange}, {5, []int{0, 0, api.MaxNumber + 1}, api.ErrRange}, {5, []int{math.MinInt, math.MaxInt}, api.ErrRange},
		{5, []int{0}, api.ErrZero}, {0, []int{0, 0}, api.ErrZero},
	} {
		wantList(t, "Shares", both(number.Shares(row.total, row.weights)), nil, row.e)
	}
	_, e := number.Shares(api.MaxNumber, slices.Repeat([]int{api.MaxNumber}, api.MaxList))
	wantError(t, "Shares of the most weights", e, api.OK)
}

func TestSharesKeepWeights(t *testing.T) {
	weights := []int{3, 1, 2}
	shares, _ := number.Shares(10, weights)
	if !slices.Equal(weights, []int{3, 1, 2}) {
		t.Errorf("weights are now %v", weights)
	}
	shares[0] = 99
	if weights[0] != 3 {
		t.Errorf("shares and weights share memory")
	}
}

func TestDraw(t *testing.T) {
	for _, row := range []struct {
		key, n int
		order  []int
		e      api.Errno
	}{
		{1, 3, []int{0, 2, 1}, api.OK}, {42, 10, []int{3, 0, 5, 9, 7, 6, 2, 8, 1, 4}, api.OK}, {2147483646, 8, []int{7, 3, 5, 6, 4, 2, 1, 0}, api.OK},
		{7, 1, []int{0}, api.OK}, {7, 0, nil, api.OK}, {0, 3, nil, api.ErrRange}, {-1, 3, nil, api.ErrRange}, {2147483647, 3, nil, api.ErrRange},
		{math.MaxInt, 3, nil, api.ErrRange}, {1, -1, nil, api.ErrRange}, {1, api.MaxList + 1, nil, api.ErrRange}, {1, math.MaxInt, nil, api.ErrRange}, {0, -1, nil, api.ErrRange},
	} {
		wantList(t, "Draw", both(number.Draw(row.key, row.n)), row.order, row.e)
	}
	order, e := number.Draw(1, api.MaxList)
	if e != api.OK || len(order) != api.MaxList {
		t.Errorf("Draw of the most elements: got %d and the error %d", len(order), e)
	}
}

func TestBinomial(t *testing.T) {
	for n := range number.MaxSet + 1 {
		for k := range n + 1 {
			wanted := api.Rat(new(big.Int).Binomial(int64(n), int64(k)).String())
			want(t, "Binomial", both(number.Binomial(n, k)), wanted, api.OK)
		}
	}
	want(t, "Binomial", both(number.Binomial(10, 3)), "120", api.OK)
	want(t, "Binomial", both(number.Binomial(5, 0)), "1", api.OK)
	want(t, "Binomial", both(number.Binomial(64, 32)), "1832624140942590534", api.OK)
	for _, row := range [][2]int{{65, 1}, {65, 66}, {5, 6}, {5, -1}, {-1, 0}, {-1, -1}, {0, 1}, {math.MaxInt, 0}, {math.MinInt, math.MinInt}, {64, 65}, {64, math.MaxInt}} {
		want(t, "Binomial", both(number.Binomial(row[0], row[1])), "", api.ErrRange)
	}
}

// The drawn order as the document describes it, with numbers that cannot overflow.
func TestDrawByDescription(t *testing.T) {
	r := rand.New(rand.NewSource(16))
	for range 200 {
		key, n := 1+r.Intn(2147483646), r.Intn(api.MaxList+1)
		x, list := big.NewInt(int64(key)), make([]int, n)
		for i := range list {
			list[i] = i
		}
		for i := n - 1; i >= 1; i-- {
			x.Mod(x.Mul(x, big.NewInt(16807)), big.NewInt(2147483647))
			j := int(new(big.Int).Mod(x, big.NewInt(int64(i+1))).Int64())
			list[i], list[j] = list[j], list[i]
		}
		wantList(t, "Draw", both(number.Draw(key, n)), list, api.OK)
	}
}
