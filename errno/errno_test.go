package errno

import (
	"testing"

	"baulk/api"
)

func TestFirst(t *testing.T) {
	for _, row := range []struct {
		errors []api.Errno
		e      api.Errno
	}{
		{nil, api.OK}, {[]api.Errno{api.OK, api.OK}, api.OK}, {[]api.Errno{api.ErrTwice, api.ErrName}, api.ErrTwice}, {[]api.Errno{api.OK, api.ErrName, api.ErrForm}, api.ErrName},
	} {
		if got := First(row.errors...); got != row.e {
			t.Errorf("First of %v: got %d, want %d", row.errors, got, row.e)
		}
	}
}

func TestIf(t *testing.T) {
	if If(true, api.ErrName) != api.ErrName || If(false, api.ErrName) != api.OK {
		t.Error("If is wrong")
	}
}
