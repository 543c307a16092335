package rule

import "testing"

func TestFirst(t *testing.T) {
	asked := 0
	answer := func(holds bool) func() bool {
		return func() bool {
			asked++
			return holds
		}
	}
	no, yes := answer(false), answer(true)
	for _, row := range []struct {
		conditions []func() bool
		number     int
		asked      int
	}{
		{nil, 0, 0}, {[]func() bool{no, no}, 0, 2}, {[]func() bool{yes}, 1, 1}, {[]func() bool{no, yes, no, yes}, 2, 2},
	} {
		asked = 0
		if got := First(row.conditions...); got != row.number || asked != row.asked {
			t.Errorf("got %d after %d conditions, want %d after %d", got, asked, row.number, row.asked)
		}
	}
}
