package check

import (
	"slices"
	"testing"

	"lenslet/api"
)

func TestFirst(t *testing.T) {
	for _, row := range []struct {
		errors []api.Errno
		first  api.Errno
	}{
		{nil, api.OK},
		{[]api.Errno{api.OK, api.OK}, api.OK},
		{[]api.Errno{api.OK, api.ErrZero, api.ErrForm}, api.ErrZero},
		{[]api.Errno{api.ErrForm, api.OK}, api.ErrForm},
	} {
		if e := First(row.errors...); e != row.first {
			t.Errorf("First of %v: %v", row.errors, e)
		}
	}
	if If(true, api.ErrForm) != api.ErrForm || If(false, api.ErrForm) != api.OK {
		t.Error("If")
	}
}

func TestCount(t *testing.T) {
	for n, wanted := range map[int]api.Errno{0: api.ErrEmpty, 1: api.OK, 4: api.OK, 5: api.ErrMany, 1000: api.ErrMany} {
		if e := Count(n, 4); e != wanted {
			t.Errorf("Count of %d up to 4: %v", n, e)
		}
	}
}

func TestRange(t *testing.T) {
	for n, wanted := range map[int]api.Errno{-1 << 63: api.ErrRange, -3: api.ErrRange, -2: api.OK, 0: api.OK, 4: api.OK, 5: api.ErrRange, 1<<63 - 1: api.ErrRange} {
		if e := Range(n, -2, 4); e != wanted {
			t.Errorf("Range of %d from -2 to 4: %v", n, e)
		}
	}
}

// letter returns a letter for a number above 0, and an error for any other one.
func letter(n int) (string, api.Errno) {
	if n <= 0 {
		return "wrong", api.Errno(-n)
	}
	return string(rune('a' + n)), api.OK
}

func TestEach(t *testing.T) {
	if list, e := Each([]int{1, 2}, letter); e != api.OK || !slices.Equal(list, []string{"b", "c"}) {
		t.Errorf("Each: %v, %v", list, e)
	}
	if list, e := Each([]int{1, -3, -2}, letter); e != api.ErrRange || list != nil {
		t.Errorf("Each with errors: %v, %v", list, e)
	}
	if list, e := Each(nil, letter); e != api.OK || len(list) != 0 {
		t.Errorf("Each of nothing: %v, %v", list, e)
	}
}

func TestAtMost(t *testing.T) {
	if list, e := AtMost([]int{1, 2}, 2, letter); e != api.OK || !slices.Equal(list, []string{"b", "c"}) {
		t.Errorf("AtMost: %v, %v", list, e)
	}
	if list, e := AtMost([]int{-3, 1, 2}, 2, letter); e != api.ErrMany || list != nil {
		t.Errorf("AtMost of too many: %v, %v", list, e)
	}
	if list, e := AtMost([]int{1, -3}, 2, letter); e != api.ErrRange || list != nil {
		t.Errorf("AtMost with an error: %v, %v", list, e)
	}
}

func TestRows(t *testing.T) {
	for _, row := range []struct {
		rows  [][]int
		found [][]string
		e     api.Errno
	}{
		{[][]int{{1, 2}, {3, 4}, {5, 6}}, [][]string{{"b", "c"}, {"d", "e"}, {"f", "g"}}, api.OK},
		{nil, nil, api.OK},
		{[][]int{{1, -3}, {2}}, nil, api.ErrRange},
		{[][]int{{-3}, {-2, 1}}, nil, api.ErrShape},
		{[][]int{{1, 2}, {-3, 1, 2}}, nil, api.ErrShape},
	} {
		found, e := Rows(row.rows, 2, letter)
		if e != row.e || !slices.EqualFunc(found, row.found, slices.Equal) {
			t.Errorf("Rows of %v: %v, %v", row.rows, found, e)
		}
	}
}
