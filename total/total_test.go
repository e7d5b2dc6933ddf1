package total_test

import (
	"testing"

	"lenslet/total"
)

func TestOf(t *testing.T) {
	join := func(a, b string) string { return a + b }
	if got := total.Of([]string{"a", "b", "c"}, join); got != "abc" {
		t.Errorf("got %q, want the elements in their order", got)
	}
	if got := total.Of(nil, join); got != "" {
		t.Errorf("got %q, want the zero value", got)
	}
}
