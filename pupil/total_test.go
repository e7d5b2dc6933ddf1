package pupil_test

import (
	"math/rand"
	"reflect"
	"testing"

	"lenslet/api"
	"lenslet/pupil"
)

// P1 of DOC.md: each function has a result for all arguments, and together with an error the other
// results are their zero values.

// zeroBeside reports results beside an error that are not zero values.
func zeroBeside(t *testing.T, what string, e api.Errno, results ...any) {
	t.Helper()
	for _, r := range results {
		if e != api.OK && !reflect.ValueOf(r).IsZero() {
			t.Errorf("%s: %v beside the error %v", what, r, e)
		}
	}
}

func TestTotal(t *testing.T) {
	random := rand.New(rand.NewSource(61))
	pupils := []pupil.Pupil{example(), none(), full(2), full(16)}
	for _, row := range wrongPupils() {
		pupils = append(pupils, row.p)
	}
	polys := []pupil.Poly{nil, {{"1", 0, 0}}, {{nines600, 1, 0}, {"1/" + nines600, 0, 16}}, greatest(random)}
	for _, row := range wrongPolys() {
		polys = append(polys, row.f)
	}
	for _, p := range pupils {
		e := pupil.CheckPupil(p)
		mask := both(pupil.Mask(p))
		want(t, "Mask", mask.Error, e)
		zeroBeside(t, "Mask", e, mask.Value)
		for _, f := range polys {
			sampled := both(pupil.Sampled(p, f))
			zeroBeside(t, "Sampled", sampled.Error, sampled.Value)
			basis := both(pupil.Basis(p, []pupil.Poly{f}))
			zeroBeside(t, "Basis", basis.Error, basis.Value)
			for _, side := range []int{-1 << 63, 0, 1, 2, 1<<63 - 1} {
				for _, corner := range [][2]int{{0, 0}, {1, -1}, {1<<63 - 1, 1}, {-1 << 63, 0}} {
					slopes := both(pupil.Slopes(p, f, corner, side))
					zeroBeside(t, "Slopes", slopes.Error, slopes.Value)
				}
			}
		}
	}
	for _, f := range polys {
		for _, g := range polys {
			sum, multiple, inner := both(pupil.AddPoly(f, g)), both(pupil.MulPoly(f, g)), both(pupil.DiscProduct(f, g))
			zeroBeside(t, "AddPoly", sum.Error, sum.Value)
			zeroBeside(t, "MulPoly", multiple.Error, multiple.Value)
			zeroBeside(t, "DiscProduct", inner.Error, inner.Value)
		}
	}
}

func TestTotalVectors(t *testing.T) {
	vectors := [][]api.Rat{nil, {"0"}, {"1"}, {nines600}, {"1", "2"}, {"1/" + nines600, "-" + nines600}}
	for _, row := range wrongVectors() {
		vectors = append(vectors, row.v)
	}
	for _, v := range vectors {
		flat := all(pupil.Flattened(v))
		zeroBeside(t, "Flattened", flat.Error, flat.First, flat.Second)
		variance := both(pupil.Variance(v))
		zeroBeside(t, "Variance", variance.Error, variance.Value)
		for _, w := range vectors {
			for _, basis := range [][][]api.Rat{nil, {w}, {v, w}, {w, v}} {
				expanded := all(pupil.Expand(basis, v))
				zeroBeside(t, "Expand", expanded.Error, expanded.First, expanded.Second)
				composed := both(pupil.Compose(basis, v))
				zeroBeside(t, "Compose", composed.Error, composed.Value)
			}
		}
	}
}

// TestArgumentsAreKept changes results and looks whether arguments or other results change.
func TestArgumentsAreKept(t *testing.T) {
	p := example()
	p.Vanes = []pupil.Vane{{A: 3, B: 4, H: 5, Half: "1/9"}}
	f := pupil.Poly{{"1", 0, 0}, {"2", 1, 0}}
	basis := [][]api.Rat{{"1", "1"}, {"1", "-1"}}
	phase := []api.Rat{"1", "2"}
	sum, _ := pupil.AddPoly(f, nil)
	sum[0].C = "9"
	turned, _ := pupil.Turned(f)
	turned[0].C = "9"
	flat, _, _ := pupil.Flattened(phase)
	flat[0] = "9"
	_, residual, _ := pupil.Expand(basis, phase)
	residual[0] = "9"
	mask, _ := pupil.Mask(p)
	mask[1][0] = !mask[1][0]
	again, _ := pupil.Mask(p)
	want(t, "another mask", again[1][0], !mask[1][0])
	want(t, "vanes", p.Vanes, []pupil.Vane{{A: 3, B: 4, H: 5, Half: "1/9"}})
	want(t, "polynomial", f, pupil.Poly{{"1", 0, 0}, {"2", 1, 0}})
	want(t, "basis", basis, [][]api.Rat{{"1", "1"}, {"1", "-1"}})
	want(t, "phase", phase, []api.Rat{"1", "2"})
}
