package check

import (
	"slices"
	"testing"

	"lenslet/api"
)

func TestFirst(t *testing.T) {
	for _, row := range []struct {
		errors []api.Errno
		first  api.Errno
	}{
		{nil, api.OK},
		{[]api.Errno{api.OK, api.OK}, api.OK},
		{[]api.Errno{api.OK, api.ErrZero, api.ErrForm}, api.ErrZero},
		{[]api.Errno{api.ErrForm, api.OK}, api.ErrForm},
	} {
		if e := First(row.errors...); e != row.first {
			t.Errorf("First of %v: %v", row.errors, e)
		}
	}
	if If(true, api.ErrForm) != api.ErrForm || If(false, api.ErrForm) != api.OK {
		t.Error("If")
	}
}

func TestEach(t *testing.T) {
	positive := func(n int) (string, api.Errno) {
		if n <= 0 {
			return "wrong", api.Errno(-n)
		}
		return string(rune('a' + n)), api.OK
	}
	if list, e := Each([]int{1, 2}, positive); e != api.OK || !slices.Equal(list, []string{"b", "c"}) {
		t.Errorf("Each: %v, %v", list, e)
	}
	if list, e := Each([]int{1, -3, -2}, positive); e != api.ErrRange || list != nil {
		t.Errorf("Each with errors: %v, %v", list, e)
	}
	if list, e := Each(nil, positive); e != api.OK || len(list) != 0 {
		t.Errorf("Each of nothing: %v, %v", list, e)
	}
}
