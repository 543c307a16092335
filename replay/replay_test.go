package replay

import (
	"slices"
	"testing"
)

func TestSteps(t *testing.T) {
	// Numbers are added; those that are not above 0 are refused, and so is what would lead above 9.
	rule := func(sum, x int) int {
		switch {
		case x <= 0:
			return 1
		case sum+x > 9:
			return 2
		}
		return 0
	}
	next := func(sum, x int) int { return sum + x }
	steps := slices.Collect(Steps(1, []int{3, 0, 4, 2, 1}, rule, next))
	wanted := []Step[int, int]{{3, 1, 0, 1, 4}, {0, 2, 1, 4, 4}, {4, 3, 0, 4, 8}, {2, 4, 2, 8, 8}, {1, 5, 0, 8, 9}}
	if !slices.Equal(steps, wanted) {
		t.Errorf("got %v, want %v", steps, wanted)
	}
	if n := len(slices.Collect(Steps(1, nil, rule, next))); n != 0 {
		t.Errorf("%d steps of nothing", n)
	}
}

func TestStepsCanBeLeft(t *testing.T) {
	asked := 0
	rule := func(int, int) int {
		asked++
		return 0
	}
	next := func(sum, x int) int { return sum + x }
	for s := range Steps(0, []int{1, 2, 3}, rule, next) {
		if s.Number == 2 {
			break
		}
	}
	if asked != 2 {
		t.Errorf("%d entries were asked for", asked)
	}
}
