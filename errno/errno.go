// Package errno chooses among the error codes of package api.
package errno

import "baulk/api"

// First returns the first of some errors that is not OK.
func First(errors ...api.Errno) api.Errno {
	for _, e := range errors {
		if e != api.OK {
			return e
		}
	}
	return api.OK
}

// If returns an error if a condition holds, otherwise OK.
func If(condition bool, e api.Errno) api.Errno {
	if condition {
		return e
	}
	return api.OK
}

// Range returns ErrRange for a number that is not from low to high, otherwise OK.
func Range(n, low, high int) api.Errno { return If(n < low || n > high, api.ErrRange) }
