// Package rule asks numbered rules in their order.
package rule

// First returns the number, from 1 on, of the first condition that holds, 0 if none does; the conditions after it are not
// asked, so that they may rely on those before them.
func First(conditions ...func() bool) int {
	for i, holds := range conditions {
		if holds() {
			return i + 1
		}
	}
	return 0
}
