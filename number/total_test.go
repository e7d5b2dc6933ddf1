package number_test

import (
	"math"
	"testing"

	"lenslet/api"
	"lenslet/number"
)

// P1 of DOC.md: each function has a result for all arguments, and together with an error the
// other results are their zero values.

// odd are numbers, most of which are wrong or at a limit.
func odd() []api.Rat {
	return append(wrong(), "0", "1", "-1/3", "1/999999999", "1/1000000000", nines600, "-"+nines600, "1/"+nines600, digits601)
}

func TestTotalNumbers(t *testing.T) {
	for _, a := range odd() {
		number.IsName(string(a))
		e := number.Check(a)
		floor := both(number.Floor(a))
		want(t, "Floor", floor.Error, e)
		want(t, "Float", e == api.OK || both(number.Float(a)) == fails[float32](e), true)
		for _, b := range odd() {
			wanted := e
			if e == api.OK {
				wanted = number.Check(b)
			}
			for _, r := range []result[api.Rat]{both(number.Add(a, b)), both(number.Sub(a, b)), both(number.Mul(a, b)), both(number.Div(a, b))} {
				want(t, "a result beside an error", r.Error == api.OK, r.Value != "")
				want(t, "the error of wrong numbers", wanted == api.OK || r.Error == wanted, true)
				want(t, "a result", r.Error != api.OK || number.Check(r.Value) == api.OK, true)
			}
			want(t, "Order", both(number.Order(a, b)).Error, wanted)
		}
		for _, decimals := range []int{-1 << 63, -1, 0, 1, 12, 13, 1<<63 - 1} {
			for _, r := range []result[api.Span]{both(number.Root(a, decimals)), both(number.Cos(a, decimals)), both(number.Sin(a, decimals))} {
				want(t, "a result beside an error", r.Error == api.OK, r.Value != api.Span{})
				want(t, "the error of decimals", r.Error != api.OK || decimals >= 1 && decimals <= 12, true)
			}
			r := both(number.Turn(a, decimals))
			want(t, "Turn", r.Error == api.OK, r.Value != api.Box{})
		}
	}
}

func TestTotalSpansAndBoxes(t *testing.T) {
	list := []api.Rat{"", "x", "2/4", "0", "-1", "1/2", nines600, "-" + nines600, digits601}
	var spans []api.Span
	for _, low := range list {
		for _, high := range list {
			spans = append(spans, span(low, high))
		}
	}
	for i, a := range spans {
		e := number.CheckSpan(a)
		r := both(number.Square(a))
		want(t, "Square", e == api.OK || r.Error == e, true)
		for k, b := range spans {
			wanted := e
			if e == api.OK {
				wanted = number.CheckSpan(b)
			}
			for _, r := range []result[api.Span]{both(number.Plus(a, b)), both(number.Minus(a, b)), both(number.Times(a, b)), both(number.Over(a, b))} {
				want(t, "a span beside an error", r.Error == api.OK, r.Value != api.Span{})
				want(t, "the error of wrong spans", wanted == api.OK || r.Error == wanted, true)
			}
			order := both(number.Compare(a, b))
			want(t, "Compare", wanted == api.OK || order == fails[int](wanted), true)
			box, other := api.Box{Re: a, Im: b}, api.Box{Re: spans[k], Im: spans[i]}
			want(t, "CheckBox", number.CheckBox(box), wanted)
			for _, r := range []result[api.Box]{both(number.AddBox(box, other)), both(number.MulBox(box, other)), both(number.Conjugate(box))} {
				want(t, "a box beside an error", r.Error == api.OK, r.Value != api.Box{})
				want(t, "the error of wrong boxes", wanted == api.OK || r.Error == wanted, true)
			}
			norm := both(number.Norm(box))
			want(t, "Norm", norm.Error == api.OK, norm.Value != api.Span{})
		}
	}
}

func TestTotalLists(t *testing.T) {
	matrices := [][][]api.Rat{{{"1", "2"}, {"3", "4"}}, {{"1"}}, {{"0"}}, filled(64, 2, "1")}
	for _, row := range wrongMatrices() {
		matrices = append(matrices, row.m)
	}
	for _, a := range matrices {
		e := number.CheckMatrix(a)
		want(t, "Rank", both(number.Rank(a)).Error, e)
		want(t, "Kernel", both(number.Kernel(a)).Error, e)
		for _, b := range matrices {
			product := both(number.Multiply(a, b))
			want(t, "Multiply", product.Error == api.OK, product.Value != nil)
			for _, right := range b {
				solution := both(number.Solve(a, right))
				want(t, "Solve", solution.Error == api.OK, solution.Value != nil)
			}
		}
	}
	for _, f := range append(notFloats(), edgeFloats()...) {
		r := both(number.Exact(f))
		want(t, "Exact", r.Error == api.OK, r.Value != "")
		number.CheckSamples([]float32{f, 0, f})
	}
	for _, key := range []int{math.MinInt, -1, 0, 1, 2147483646, 2147483647, math.MaxInt} {
		for _, n := range []int{math.MinInt, -1, 0, 1, 256, 257, math.MaxInt} {
			r := both(number.Draw(key, n))
			want(t, "Draw", r.Error == api.OK || r.Value == nil, true)
		}
	}
}

// TestSameResults calls functions twice: a result depends on nothing but the arguments.
func TestSameResults(t *testing.T) {
	want(t, "Cos", both(number.Cos("97/430959645", 12)), both(number.Cos("97/430959645", 12)))
	want(t, "Kernel", both(number.Kernel(filled(3, 9, "1/7"))), both(number.Kernel(filled(3, 9, "1/7"))))
	want(t, "Draw", both(number.Draw(77, 256)), both(number.Draw(77, 256)))
}
