package reconstruct_test

import (
	"math/big"
	"math/rand"
	"testing"

	"lenslet/api"
	"lenslet/reconstruct"
)

// P5.4

func TestProductExamples(t *testing.T) {
	r := rows("2/3 1/3; -1/3 1/3; -1/3 -2/3")
	want(t, "Apply", both(reconstruct.Apply(r, list("3 0"))), is(list("2 -1 -1")))
	want(t, "Residual", both(reconstruct.Residual(example(), list("3 0"), list("2 -1 -1"))), is(list("0 0")))
	want(t, "Apply with one actuator", both(reconstruct.Apply(rows("1/5 2/5"), list("5 0"))), is(list("1")))
	want(t, "Residual with one actuator", both(reconstruct.Residual(single(), list("5 0"), list("1"))), is(list("4 -2")))
	want(t, "Cost with one actuator", both(reconstruct.Cost(single(), list("1 1"), list("5 0"), list("1"))), is(api.Rat("20")))
	want(t, "Noise", both(reconstruct.Noise(rows("1/5 2/5"), list("1 1"))), is(list("1/5")))
	want(t, "Compose", both(reconstruct.Compose(rows("1 0 -1; 0 1 -1"), list("2 3"))), is(list("2 3 -5")))
	want(t, "Dropped", both(reconstruct.Dropped(example(), []int{0})), is(rows("0 1 -1")))
}

// checkProducts compares the products with a matrix with their definitions.
func checkProducts(t *testing.T, random *rand.Rand, m matrix) {
	t.Helper()
	d, x, slopes, weights := m.rats(), someList(random, len(m[0])), someList(random, len(m)), someWeights(random, len(m))
	want(t, "Apply", both(reconstruct.Apply(d, x.rats())), is(m.apply(x).rats()))
	want(t, "Residual", both(reconstruct.Residual(d, slopes.rats(), x.rats())), is(slopes.minus(m.apply(x)).rats()))
	want(t, "Cost", both(reconstruct.Cost(d, weights.rats(), slopes.rats(), x.rats())), is(rat(m.cost(weights, slopes, x))))
	checkNoise(t, random, m)
}

// checkNoise compares the noise of a matrix with its definition.
func checkNoise(t *testing.T, random *rand.Rand, m matrix) {
	t.Helper()
	variances := someWeights(random, len(m[0]))
	variances[random.Intn(len(variances))] = integer(0)
	var noise numbers
	for _, row := range m {
		sum := new(big.Rat)
		for j, x := range row {
			sum.Add(sum, times(times(x, x), variances[j]))
		}
		noise = append(noise, sum)
	}
	want(t, "Noise", both(reconstruct.Noise(m.rats(), variances.rats())), is(noise.rats()))
}

func TestProducts(t *testing.T) {
	random := rand.New(rand.NewSource(31))
	for range 200 {
		checkProducts(t, random, someInteraction(random, 6, 6))
	}
	for _, m := range []matrix{someMatrix(random, 1, 1, 1), someMatrix(random, 1, 16, 1), someMatrix(random, 64, 1, 1), someMatrix(random, 64, 16, 16)} {
		checkProducts(t, random, m)
	}
	for _, m := range []matrix{someMatrix(random, 16, 64, 16), someMatrix(random, 64, 64, 3), someMatrix(random, 1, 64, 1), someMatrix(random, 64, 17, 2)} {
		x := someList(random, len(m[0]))
		want(t, "Apply", both(reconstruct.Apply(m.rats(), x.rats())), is(m.apply(x).rats()))
		checkNoise(t, random, m)
	}
}

func TestCompose(t *testing.T) {
	random := rand.New(rand.NewSource(32))
	for k := range 100 {
		count, n := 1+random.Intn(5), 1+random.Intn(5)
		if k == 0 {
			count, n = api.MaxModes, api.MaxActuators
		}
		modes, coefficients := someMatrix(random, count, n, count), someList(random, count)
		var sum numbers
		for j := range n {
			sum = append(sum, modes.column(j).dot(coefficients))
		}
		want(t, "Compose", both(reconstruct.Compose(modes.rats(), coefficients.rats())), is(sum.rats()))
	}
}

func TestDropped(t *testing.T) {
	d := rows("1 2; 3 4; 5 6; 7 8")
	for _, row := range []struct {
		slopes []int
		result result[[][]api.Rat]
	}{
		{nil, is(d)},
		{[]int{}, is(d)},
		{[]int{0}, is(rows("3 4; 5 6; 7 8"))},
		{[]int{1, 2}, is(rows("1 2; 7 8"))},
		{[]int{3}, is(rows("1 2; 3 4; 5 6"))},
		{[]int{0, 1, 3}, is(rows("5 6"))},
		{[]int{0, 1, 2, 3}, fails[[][]api.Rat](api.ErrEmpty)},
		{[]int{4}, fails[[][]api.Rat](api.ErrUnknown)},
		{[]int{-1}, fails[[][]api.Rat](api.ErrUnknown)},
		{[]int{-far - 1}, fails[[][]api.Rat](api.ErrUnknown)},
		{[]int{0, far}, fails[[][]api.Rat](api.ErrUnknown)},
		{[]int{1, 1}, fails[[][]api.Rat](api.ErrOrder)},
		{[]int{2, 1}, fails[[][]api.Rat](api.ErrOrder)},
		{[]int{2, -1}, fails[[][]api.Rat](api.ErrUnknown)},
		{[]int{2, 1, 4}, fails[[][]api.Rat](api.ErrOrder)},
		{[]int{2, 4, 1}, fails[[][]api.Rat](api.ErrUnknown)},
		{[]int{0, 2, 1, 3}, fails[[][]api.Rat](api.ErrOrder)},
		{[]int{0, 1, 2, 3, 3}, fails[[][]api.Rat](api.ErrOrder)},
		{[]int{0, 1, 2, 3, 4}, fails[[][]api.Rat](api.ErrUnknown)},
	} {
		want(t, "Dropped", both(reconstruct.Dropped(d, row.slopes)), row.result)
	}
	want(t, "Dropped of a single row", both(reconstruct.Dropped(rows("1 2"), []int{0})), fails[[][]api.Rat](api.ErrEmpty))
	want(t, "Dropped without slopes", both(reconstruct.Dropped(rows("1 2"), nil)), is(rows("1 2")))
	var odd []int
	for i := range 32 {
		odd = append(odd, 2*i+1)
	}
	want(t, "Dropped of 64 rows", both(reconstruct.Dropped(filled(64, 16, nines600), odd)), is(filled(32, 16, nines600)))
}

func TestProductsOfManyDigits(t *testing.T) {
	large := [][]api.Rat{{"1"}, {nines600}}
	want(t, "Apply", both(reconstruct.Apply(large, list("1/2"))), is([]api.Rat{"1/2", nines600 + "/2"}))
	want(t, "Apply", both(reconstruct.Apply(large, list("2"))), fails[[]api.Rat](api.ErrLarge))
	want(t, "Apply of numbers that cancel", both(reconstruct.Apply([][]api.Rat{{nines600, nines600}}, list("7 -7"))), is(list("0")))
	want(t, "Compose", both(reconstruct.Compose(large, list("1 1"))), fails[[]api.Rat](api.ErrLarge))
	want(t, "Compose", both(reconstruct.Compose(large, list("-1 1"))), is([]api.Rat{nines600[1:] + "8"}))
	want(t, "Residual", both(reconstruct.Residual(large, []api.Rat{"0", nines600}, list("-1"))), fails[[]api.Rat](api.ErrLarge))
	want(t, "Residual", both(reconstruct.Residual(large, []api.Rat{"0", nines600}, list("1"))), is(list("-1 0")))
	want(t, "Cost", both(reconstruct.Cost(rows("1"), list("1"), []api.Rat{power10(300)}, list("0"))), fails[api.Rat](api.ErrLarge))
	want(t, "Cost", both(reconstruct.Cost(rows("1"), list("1/10"), []api.Rat{power10(300)}, list("0"))), is(power10(599)))
	want(t, "Noise", both(reconstruct.Noise([][]api.Rat{{"1"}, {power10(300)}}, list("1"))), fails[[]api.Rat](api.ErrLarge))
	want(t, "Noise", both(reconstruct.Noise([][]api.Rat{{"1"}, {power10(300)}}, list("1/10"))), is([]api.Rat{"1/10", power10(599)}))
}

func TestWrongProducts(t *testing.T) {
	for _, w := range wrongMatrices(api.MaxSlopes, api.MaxSlopes) {
		want(t, "Apply", both(reconstruct.Apply(w.rows, list("?"))), fails[[]api.Rat](w.e))
		want(t, "Noise", both(reconstruct.Noise(w.rows, list("?"))), fails[[]api.Rat](w.e))
	}
	for _, w := range wrongMatrices(api.MaxSlopes, api.MaxActuators) {
		want(t, "Residual", both(reconstruct.Residual(w.rows, list("?"), list("?"))), fails[[]api.Rat](w.e))
		want(t, "Cost", both(reconstruct.Cost(w.rows, list("?"), list("?"), list("?"))), fails[api.Rat](w.e))
		want(t, "Dropped", both(reconstruct.Dropped(w.rows, []int{-1})), fails[[][]api.Rat](w.e))
	}
	for _, w := range wrongLists(3) {
		want(t, "Apply", both(reconstruct.Apply(example(), w.list)), fails[[]api.Rat](w.e))
		want(t, "Residual", both(reconstruct.Residual(example(), list("1 1"), w.list)), fails[[]api.Rat](w.e))
		want(t, "Cost", both(reconstruct.Cost(example(), list("1 1"), list("1 1"), w.list)), fails[api.Rat](w.e))
		want(t, "Compose", both(reconstruct.Compose(rows("1; 2; 3"), w.list)), fails[[]api.Rat](w.e))
	}
	for _, w := range wrongLists(2) {
		want(t, "Residual", both(reconstruct.Residual(example(), w.list, list("?"))), fails[[]api.Rat](w.e))
		want(t, "Cost", both(reconstruct.Cost(example(), list("1 1"), w.list, list("?"))), fails[api.Rat](w.e))
	}
	for _, w := range wrongWeights(2) {
		want(t, "Cost", both(reconstruct.Cost(example(), w.list, list("?"), list("?"))), fails[api.Rat](w.e))
	}
	for _, w := range limitedLists(3, "-1", "-1/7", "-"+nines600) {
		want(t, "Noise", both(reconstruct.Noise(example(), w.list)), fails[[]api.Rat](w.e))
	}
	want(t, "Noise without variances", both(reconstruct.Noise(example(), list("0 0 0"))), is(list("0 0")))
}

func TestWrongCompositions(t *testing.T) {
	wrong := []wrongRows{
		{nil, api.ErrEmpty},
		{make([][]api.Rat, 17), api.ErrMany},
		{filled(17, 17, "?"), api.ErrMany},
		{filled(17, 16, "1"), api.ErrMany},
		{[][]api.Rat{{}}, api.ErrEmpty},
		{[][]api.Rat{{}, {"?"}, {}}, api.ErrEmpty},
		{filled(1, 17, "?"), api.ErrMany},
		{filled(16, 17, "1"), api.ErrMany},
		{[][]api.Rat{{"1"}, {}}, api.ErrShape},
		{[][]api.Rat{{"1"}, {"?", "1"}}, api.ErrShape},
		{[][]api.Rat{{"1"}, repeated("?", 17)}, api.ErrShape},
		{[][]api.Rat{{"?"}, {"1", "1"}}, api.ErrForm},
	}
	for _, w := range wrongRats() {
		wrong = append(wrong, wrongRows{[][]api.Rat{{w.a, "?"}, {"?"}}, w.e}, wrongRows{[][]api.Rat{{"1", "2"}, {"3", w.a}}, w.e})
	}
	for _, w := range wrong {
		want(t, "Compose", both(reconstruct.Compose(w.rows, list("?"))), fails[[]api.Rat](w.e))
	}
}
