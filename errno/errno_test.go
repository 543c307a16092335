package errno

import (
	"testing"

	"baulk/api"
)

func TestFirst(t *testing.T) {
	for _, row := range []struct {
		errors []api.Errno
		e      api.Errno
	}{
		{nil, api.OK}, {[]api.Errno{api.OK, api.OK}, api.OK}, {[]api.Errno{api.ErrTwice, api.ErrName}, api.ErrTwice}, {[]api.Errno{api.OK, api.ErrName, api.ErrForm}, api.ErrName},
	} {
		if got := First(row.errors...); got != row.e {
			t.Errorf("First of %v: got %d, want %d", row.errors, got, row.e)
		}
	}
}

func TestIf(t *testing.T) {
	if If(true, api.ErrName) != api.ErrName || If(false, api.ErrName) != api.OK {
		t.Error("If is wrong")
	}
}

func TestRange(t *testing.T) {
	for n, e := range map[int]api.Errno{1: api.ErrRange, 2: api.OK, 3: api.OK, 4: api.OK, 5: api.ErrRange} {
		if got := Range(n, 2, 4); got != e {
			t.Errorf("Range of %d from 2 to 4: got %d, want %d", n, got, e)
		}
	}
	if Range(2, 4, 2) != api.ErrRange {
		t.Error("a range without numbers has one")
	}
}
