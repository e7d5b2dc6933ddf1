package pupil_test

import (
	"math/big"
	"math/rand"
	"testing"

	"lenslet/api"
	"lenslet/pupil"
)

// P2.4

// sampled returns the values of a polynomial on a pupil, by the definition.
func sampled(p pupil.Pupil, f pupil.Poly) []*big.Rat {
	var list []*big.Rat
	for _, c := range cells(p) {
		list = append(list, at(f, centre(c[0], p.Size), centre(c[1], p.Size)))
	}
	return list
}

// without returns a vector less a multiple of another one.
func without(v []*big.Rat, factor *big.Rat, b []*big.Rat) []*big.Rat {
	var rest []*big.Rat
	for k, x := range v {
		rest = append(rest, minus(x, times(factor, b[k])))
	}
	return rest
}

// orthogonal returns the vectors of a basis, by the definition, or false if one would be 0.
func orthogonal(vectors [][]*big.Rat) ([][]*big.Rat, bool) {
	var basis [][]*big.Rat
	for _, v := range vectors {
		rest := v
		for _, b := range basis {
			rest = without(rest, over(product(v, b), product(b, b)), b)
		}
		if product(rest, rest).Sign() == 0 {
			return nil, false
		}
		basis = append(basis, rest)
	}
	return basis, true
}

// limitedBasis is the result for vectors, or ErrLarge if a number has too many digits.
func limitedBasis(vectors [][]*big.Rat) result[[][]api.Rat] {
	var list [][]api.Rat
	for _, v := range vectors {
		row := limited(v)
		if row.Error != api.OK {
			return fails[[][]api.Rat](row.Error)
		}
		list = append(list, row.Value)
	}
	return is(list)
}

// basisOf returns the basis for modes, by the definition.
func basisOf(p pupil.Pupil, modes []pupil.Poly) result[[][]api.Rat] {
	if len(cells(p)) == 0 {
		return fails[[][]api.Rat](api.ErrNone)
	}
	var vectors [][]*big.Rat
	for _, f := range modes {
		vectors = append(vectors, sampled(p, f))
	}
	basis, independent := orthogonal(vectors)
	if !independent {
		return fails[[][]api.Rat](api.ErrSingular)
	}
	return limitedBasis(basis)
}

// zernikes returns the first Zernike polynomials.
func zernikes(count int) []pupil.Poly {
	var list []pupil.Poly
	for n := 0; len(list) < count; n++ {
		for m := -n; m <= n && len(list) < count; m += 2 {
			list = append(list, zernike(n, m))
		}
	}
	return list
}

func TestSampled(t *testing.T) {
	random := rand.New(rand.NewSource(31))
	for range 200 {
		p, f := somePupil(random), someTerms(random)
		wanted := limited(sampled(p, f))
		if len(cells(p)) == 0 {
			wanted = fails[[]api.Rat](api.ErrNone)
		}
		want(t, "Sampled", both(pupil.Sampled(p, f)), wanted)
	}
	p := full(16)
	f := greatest(random)
	want(t, "Sampled on all cells", both(pupil.Sampled(p, f)), limited(sampled(p, f)))
	want(t, "Sampled 0", both(pupil.Sampled(example(), nil)), is(repeated("0", 8)))
	want(t, "Sampled without a cell", both(pupil.Sampled(none(), pupil.Poly{{nines600, 1, 0}})), fails[[]api.Rat](api.ErrNone))
	want(t, "Sampled at the limit", both(pupil.Sampled(full(3), pupil.Poly{{nines600, 0, 0}, {"1", 1, 0}})), fails[[]api.Rat](api.ErrLarge))
	for _, row := range wrongPupils() {
		want(t, "Sampled", both(pupil.Sampled(row.p, pupil.Poly{{}})), fails[[]api.Rat](row.e))
	}
	for _, row := range wrongPolys() {
		want(t, "Sampled", both(pupil.Sampled(none(), row.f)), fails[[]api.Rat](row.e))
	}
}

func TestBasis(t *testing.T) {
	random := rand.New(rand.NewSource(32))
	for range 200 {
		p := somePupil(random)
		var modes []pupil.Poly
		for range 1 + random.Intn(4) {
			modes = append(modes, somePoly(random, 1+random.Intn(4)))
		}
		want(t, "Basis", both(pupil.Basis(p, modes)), basisOf(p, modes))
	}
	for size := 2; size <= api.MaxSide; size += 2 {
		p := pupil.Pupil{Size: size, Outer: "1", Inner: "1/5", Vanes: []pupil.Vane{{A: 3, B: 4, H: 5, Half: "1/20"}}}
		for _, count := range []int{1, 3, 6, 10, 16} {
			want(t, "Basis for Zernike modes", both(pupil.Basis(p, zernikes(count))), basisOf(p, zernikes(count)))
		}
	}
}

func TestBasisOfExamples(t *testing.T) {
	one, x, focus := pupil.Poly{{"1", 0, 0}}, pupil.Poly{{"1", 1, 0}}, zernike(2, 0)
	large, shifted := pupil.Poly{{nines600, 1, 0}}, pupil.Poly{{"1/7", 0, 0}, {nines600, 1, 0}}
	failed := func(e api.Errno) result[[][]api.Rat] { return fails[[][]api.Rat](e) }
	for what, row := range map[string]struct {
		p     pupil.Pupil
		modes []pupil.Poly
		r     result[[][]api.Rat]
	}{
		"1 and X":               {example(), []pupil.Poly{one, x}, is([][]api.Rat{repeated("1", 8), {"-1/4", "1/4", "-3/4", "3/4", "-3/4", "3/4", "-1/4", "1/4"}})},
		"1 and focus":           {example(), []pupil.Poly{one, focus}, failed(api.ErrSingular)},
		"focus alone":           {example(), []pupil.Poly{focus}, is([][]api.Rat{repeated("1/4", 8)})},
		"0":                     {example(), []pupil.Poly{nil}, failed(api.ErrSingular)},
		"1 and 0":               {example(), []pupil.Poly{one, {}}, failed(api.ErrSingular)},
		"X twice":               {example(), []pupil.Poly{x, one, x}, failed(api.ErrSingular)},
		"more modes than cells": {full(2), zernikes(5), failed(api.ErrSingular)},
		"a large number":        {full(4), []pupil.Poly{large}, failed(api.ErrLarge)},
		"singular with large":   {full(4), []pupil.Poly{large, one, large}, failed(api.ErrSingular)},
		"large less its piston": {full(3), []pupil.Poly{one, {{nines600, 0, 0}, {"1", 1, 0}}}, is([][]api.Rat{repeated("1", 9), {"-2/3", "0", "2/3", "-2/3", "0", "2/3", "-2/3", "0", "2/3"}})},
		"large on the way":      {full(3), []pupil.Poly{large, shifted}, is([][]api.Rat{{"-" + double(), "0", double(), "-" + double(), "0", double(), "-" + double(), "0", double()}, repeated("1/7", 9)})},
		"no cell":               {none(), []pupil.Poly{nil}, failed(api.ErrNone)},
		"no modes":              {none(), nil, failed(api.ErrEmpty)},
		"16 modes":              {none(), make([]pupil.Poly, 16), failed(api.ErrNone)},
		"17 modes":              {none(), make([]pupil.Poly, 17), failed(api.ErrMany)},
		"17 wrong modes":        {none(), append(make([]pupil.Poly, 16), pupil.Poly{{}}), failed(api.ErrMany)},
		"two wrong modes":       {none(), []pupil.Poly{one, {{"0", 0, 0}}, {{"x", 0, 0}}}, failed(api.ErrZero)},
	} {
		want(t, "Basis for "+what, both(pupil.Basis(row.p, row.modes)), row.r)
	}
	for _, row := range wrongPupils() {
		want(t, "Basis", both(pupil.Basis(row.p, nil)), failed(row.e))
	}
	for _, row := range wrongPolys() {
		want(t, "Basis", both(pupil.Basis(none(), []pupil.Poly{one, row.f})), failed(row.e))
	}
}

// double returns two thirds of the number with 600 digits 9.
func double() api.Rat { return rat(times(value(nines600), big.NewRat(2, 3))) }

// someBasis returns orthogonal vectors.
func someBasis(random *rand.Rand, count, n int) [][]*big.Rat {
	for {
		var vectors [][]*big.Rat
		for range count {
			vectors = append(vectors, smalls(random, n))
		}
		if basis, independent := orthogonal(vectors); independent {
			return basis
		}
	}
}

// written returns the strings of vectors.
func written(vectors [][]*big.Rat) [][]api.Rat {
	var list [][]api.Rat
	for _, v := range vectors {
		list = append(list, rats(v))
	}
	return list
}

func TestExpandAndCompose(t *testing.T) {
	random := rand.New(rand.NewSource(33))
	for range 400 {
		count := 1 + random.Intn(4)
		n := count + random.Intn(5)
		basis, phase := someBasis(random, count, n), smalls(random, n)
		var coefficients []*big.Rat
		residual, sum := phase, make([]*big.Rat, n)
		for k := range sum {
			sum[k] = new(big.Rat)
		}
		for _, b := range basis {
			c := over(product(phase, b), product(b, b))
			coefficients = append(coefficients, c)
			residual = without(residual, c, b)
			sum = without(sum, new(big.Rat).Neg(c), b)
		}
		want(t, "Expand", all(pupil.Expand(written(basis), rats(phase))), two[[]api.Rat, []api.Rat]{rats(coefficients), rats(residual), api.OK})
		want(t, "Compose", both(pupil.Compose(written(basis), rats(coefficients))), is(rats(sum)))
	}
}

func TestExpandAndComposeOfExamples(t *testing.T) {
	basis := [][]api.Rat{repeated("1", 8), {"-1/4", "1/4", "-3/4", "3/4", "-3/4", "3/4", "-1/4", "1/4"}}
	phase := []api.Rat{"1", "3", "-1", "5", "-1", "5", "1", "3"}
	want(t, "Expand 2 + 4 X", all(pupil.Expand(basis, phase)), two[[]api.Rat, []api.Rat]{[]api.Rat{"2", "4"}, repeated("0", 8), api.OK})
	want(t, "Compose 2, 4", both(pupil.Compose(basis, []api.Rat{"2", "4"})), is(phase))
	unit := make([][]api.Rat, 16)
	for k := range unit {
		unit[k] = repeated("0", 256)
		unit[k][k] = "3"
	}
	long := repeated("1", 256)
	rest := append(repeated("0", 16), repeated("1", 240)...)
	want(t, "Expand at the limits", all(pupil.Expand(unit, long)), two[[]api.Rat, []api.Rat]{repeated("1/3", 16), rest, api.OK})
	want(t, "Compose at the limits", both(pupil.Compose(unit, repeated("1/3", 16))), is(append(repeated("1", 16), repeated("0", 240)...)))
	one := [][]api.Rat{{"1", "0"}}
	want(t, "Expand a large phase", all(pupil.Expand(one, []api.Rat{nines600, nines600})), two[[]api.Rat, []api.Rat]{[]api.Rat{nines600}, []api.Rat{"0", nines600}, api.OK})
	large := all(pupil.Expand([][]api.Rat{{"1/2", "0"}}, []api.Rat{nines600, "0"}))
	want(t, "a large coefficient", large, two[[]api.Rat, []api.Rat]{Error: api.ErrLarge})
	tilt := [][]api.Rat{{"1", "1", "1"}}
	large = all(pupil.Expand(tilt, []api.Rat{nines600, "-" + nines600, "1"}))
	want(t, "a large element of the residual", large, two[[]api.Rat, []api.Rat]{Error: api.ErrLarge})
	want(t, "Compose a large phase", both(pupil.Compose([][]api.Rat{{"2", "0"}}, []api.Rat{nines600})), fails[[]api.Rat](api.ErrLarge))
	want(t, "Compose with a large number on the way", both(pupil.Compose([][]api.Rat{{nines600, nines600}, {"1", "-1"}}, []api.Rat{"1/" + nines600, "-1"})), is([]api.Rat{"0", "2"}))
}

// wrongBasis is a basis with its first error, and the error that it has if the other list fits to it.
type wrongBasis struct {
	basis [][]api.Rat
	e     api.Errno
}

// wrongBases are lists that are not vectors of a basis.
func wrongBases() []wrongBasis {
	list := []wrongBasis{
		{nil, api.ErrEmpty},
		{[][]api.Rat{}, api.ErrEmpty},
		{make([][]api.Rat, 17), api.ErrMany},
		{append(make([][]api.Rat, 16), []api.Rat{"x"}), api.ErrMany},
		{[][]api.Rat{{"1", "2"}, {"1"}, {"x"}}, api.ErrShape},
		{[][]api.Rat{{"1", "2"}, {"1", "2", "3"}}, api.ErrShape},
		{[][]api.Rat{{"1", "2"}, nil}, api.ErrShape},
		{[][]api.Rat{{"1", "2"}, {"x"}}, api.ErrForm},
		{[][]api.Rat{{"1", "2"}, repeated("1", 257)}, api.ErrMany},
		{[][]api.Rat{nil, {"1"}}, api.ErrShape},
		{[][]api.Rat{{"0"}, {"x"}}, api.ErrForm},
	}
	for _, row := range wrongVectors() {
		list = append(list, wrongBasis{[][]api.Rat{row.v, nil, {"x"}}, row.e})
	}
	return list
}

// notOrthogonal are vectors that do not form a basis.
func notOrthogonal() []wrongBasis {
	return []wrongBasis{
		{[][]api.Rat{nil}, api.ErrZero},
		{[][]api.Rat{{}, {}}, api.ErrZero},
		{[][]api.Rat{{"0", "0"}}, api.ErrZero},
		{[][]api.Rat{{"1", "1"}, {"0", "0"}, {"1", "0"}}, api.ErrZero},
		{[][]api.Rat{{"1", "1"}, {"1", "0"}, {"0", "0"}}, api.ErrRule},
		{[][]api.Rat{{"1", "1"}, {"1", "1"}}, api.ErrRule},
		{[][]api.Rat{{"1", "0", "0"}, {"0", "1", "0"}, {"0", "1", "1"}}, api.ErrRule},
		{[][]api.Rat{{"1", "0", "0"}, {"0", "1", "0"}, {"1", "0", "1"}}, api.ErrRule},
		{[][]api.Rat{{nines600, "1"}, {"1/" + nines600, "-" + nines600}}, api.ErrRule},
	}
}

func TestWrongBases(t *testing.T) {
	failed := func(e api.Errno) two[[]api.Rat, []api.Rat] { return two[[]api.Rat, []api.Rat]{Error: e} }
	for _, row := range wrongBases() {
		want(t, "Expand", all(pupil.Expand(row.basis, []api.Rat{digits601})), failed(row.e))
		want(t, "Compose", both(pupil.Compose(row.basis, []api.Rat{digits601})), fails[[]api.Rat](row.e))
	}
	for _, row := range notOrthogonal() {
		n, count := len(row.basis[0]), len(row.basis)
		want(t, "Expand", all(pupil.Expand(row.basis, repeated(nines600, n))), failed(row.e))
		want(t, "Compose", both(pupil.Compose(row.basis, repeated(nines600, count))), fails[[]api.Rat](row.e))
		want(t, "Expand too long a phase", all(pupil.Expand(row.basis, repeated("1", n+1))), failed(api.ErrShape))
		want(t, "Compose too many coefficients", both(pupil.Compose(row.basis, repeated("1", count+1))), fails[[]api.Rat](api.ErrShape))
		want(t, "Compose too few coefficients", both(pupil.Compose(row.basis, repeated("1", count-1))), fails[[]api.Rat](api.ErrShape))
		for _, wrong := range wrongVectors() {
			want(t, "Expand a wrong phase", all(pupil.Expand(row.basis, wrong.v)), failed(wrong.e))
			want(t, "Compose wrong coefficients", both(pupil.Compose(row.basis, wrong.v)), fails[[]api.Rat](wrong.e))
		}
	}
	want(t, "Expand too short a phase", all(pupil.Expand([][]api.Rat{{"1", "2"}}, []api.Rat{"1"})), failed(api.ErrShape))
	want(t, "Expand no phase", all(pupil.Expand([][]api.Rat{{"1", "2"}}, nil)), failed(api.ErrShape))
	want(t, "Compose no coefficients", both(pupil.Compose([][]api.Rat{{"1", "2"}}, nil)), fails[[]api.Rat](api.ErrShape))
}
