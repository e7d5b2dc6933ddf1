package total_test

import (
	"testing"

	"lenslet/total"
)

func TestOf(t *testing.T) {
	join := func(a, b string) string { return a + b }
	if got := total.Of([]string{"a", "b", "c"}, join); got != "abc" {
		t.Errorf("got %q, want the elements in their order", got)
	}
	if got := total.Of(nil, join); got != "" {
		t.Errorf("got %q, want the zero value", got)
	}
}

func TestProducts(t *testing.T) {
	times := func(a, b string) string { return a + b }
	plus := func(a, b string) string { return a + "+" + b }
	if got := total.Products([]string{"a", "b"}, []string{"c", "d"}, times, plus); got != "+ac+bd" {
		t.Errorf("got %q, want the products in their order", got)
	}
	if got := total.Products(nil, nil, times, plus); got != "" {
		t.Errorf("got %q, want the zero value", got)
	}
}
