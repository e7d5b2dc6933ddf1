package number_test

import (
	"math/big"
	"math/rand"
	"testing"

	"lenslet/api"
	"lenslet/number"
)

// P1.5

// matrix returns a matrix of numbers; those rows after the given rank depend on the ones before.
func matrix(random *rand.Rand, rows, columns, rank int) [][]*big.Rat {
	m := make([][]*big.Rat, rows)
	for i := range m {
		m[i] = make([]*big.Rat, columns)
		for j := range m[i] {
			m[i][j] = new(big.Rat)
			if i < rank {
				m[i][j] = small(random)
			}
		}
		for k := range min(i, rank) {
			if i < rank {
				break
			}
			factor := small(random)
			for j := range m[i] {
				m[i][j].Add(m[i][j], new(big.Rat).Mul(factor, m[k][j]))
			}
		}
	}
	random.Shuffle(rows, func(i, k int) { m[i], m[k] = m[k], m[i] })
	return m
}

// rats returns the strings of a matrix.
func rats(m [][]*big.Rat) [][]api.Rat {
	var all [][]api.Rat
	for _, row := range m {
		all = append(all, ratRow(row))
	}
	return all
}

// ratRow returns the strings of a list.
func ratRow(list []*big.Rat) []api.Rat {
	var all []api.Rat
	for _, x := range list {
		all = append(all, rat(x))
	}
	return all
}

// product returns the product of two matrices.
func product(a, b [][]*big.Rat) [][]*big.Rat {
	var all [][]*big.Rat
	for _, row := range a {
		var sums []*big.Rat
		for j := range b[0] {
			sum := new(big.Rat)
			for k, x := range row {
				sum.Add(sum, new(big.Rat).Mul(x, b[k][j]))
			}
			sums = append(sums, sum)
		}
		all = append(all, sums)
	}
	return all
}

// rankOf returns the rank of a matrix, by Gauss's elimination.
func rankOf(m [][]*big.Rat) int {
	var rows [][]*big.Rat
	for _, row := range m {
		rows = append(rows, append([]*big.Rat(nil), row...))
	}
	rank := 0
	for column := range m[0] {
		found := rank
		for found < len(rows) && rows[found][column].Sign() == 0 {
			found++
		}
		if found == len(rows) {
			continue
		}
		rows[rank], rows[found] = rows[found], rows[rank]
		for i := rank + 1; i < len(rows); i++ {
			factor := new(big.Rat).Quo(rows[i][column], rows[rank][column])
			for j := range rows[i] {
				rows[i][j] = new(big.Rat).Sub(rows[i][j], new(big.Rat).Mul(factor, rows[rank][j]))
			}
		}
		rank++
	}
	return rank
}

// column returns a list as a matrix with one column.
func column(list []*big.Rat) [][]*big.Rat {
	var m [][]*big.Rat
	for _, x := range list {
		m = append(m, []*big.Rat{x})
	}
	return m
}

// checkBasis reports a basis that is not the reduced echelon form of the kernel of a matrix.
func checkBasis(t *testing.T, m [][]*big.Rat, basis [][]api.Rat) {
	t.Helper()
	columns := len(m[0])
	want(t, "number of vectors", len(basis), columns-rankOf(m))
	last := -1
	for i, row := range basis {
		want(t, "length of a vector", len(row), columns)
		var list []*big.Rat
		pivot := -1
		for j, a := range row {
			list = append(list, value(t, a))
			if pivot < 0 && a != "0" {
				pivot = j
			}
		}
		if pivot <= last || row[pivot] != "1" {
			t.Fatalf("the vector %v is not in echelon form", row)
		}
		last = pivot
		for k := range basis {
			if k != i && basis[k][pivot] != "0" {
				t.Fatalf("the vector %v is not reduced", basis[k])
			}
		}
		for _, sum := range product(m, column(list)) {
			want(t, "product with a vector of the kernel", sum[0].Sign(), 0)
		}
	}
}

func TestMatrices(t *testing.T) {
	random := rand.New(rand.NewSource(51))
	for range 500 {
		rows, columns := 1+random.Intn(7), 1+random.Intn(7)
		m := matrix(random, rows, columns, random.Intn(rows+1))
		want(t, "CheckMatrix", number.CheckMatrix(rats(m)), api.OK)
		rank := rankOf(m)
		want(t, "Rank", both(number.Rank(rats(m))), is(rank))
		basis, e := number.Kernel(rats(m))
		want(t, "Kernel", e, api.OK)
		checkBasis(t, m, basis)
		other := matrix(random, columns, 1+random.Intn(5), columns)
		want(t, "Multiply", both(number.Multiply(rats(m), rats(other))), is(rats(product(m, other))))
		checkSolve(t, random, m, rank)
		checkContradiction(t, random, m, rank)
	}
}

// checkSolve solves equations that have a solution.
func checkSolve(t *testing.T, random *rand.Rand, m [][]*big.Rat, rank int) {
	t.Helper()
	columns := len(m[0])
	var x, right []*big.Rat
	for range columns {
		x = append(x, small(random))
	}
	for _, row := range product(m, column(x)) {
		right = append(right, row[0])
	}
	wanted := fails[[]api.Rat](api.ErrSingular)
	if rank == columns {
		wanted = is(ratRow(x))
	}
	want(t, "Solve", both(number.Solve(rats(m), ratRow(right))), wanted)
}

// checkContradiction solves equations that have no solution for most right sides.
func checkContradiction(t *testing.T, random *rand.Rand, m [][]*big.Rat, rank int) {
	t.Helper()
	var right []*big.Rat
	var joined [][]*big.Rat
	for _, row := range m {
		b := small(random)
		right = append(right, b)
		joined = append(joined, append(append([]*big.Rat(nil), row...), b))
	}
	if rankOf(joined) > rank {
		want(t, "Solve of contradictory equations", both(number.Solve(rats(m), ratRow(right))), fails[[]api.Rat](api.ErrSingular))
	}
}

func TestMatricesOfExamples(t *testing.T) {
	a, swap := [][]api.Rat{{"1", "2"}, {"3", "4"}}, [][]api.Rat{{"0", "1"}, {"1", "0"}}
	want(t, "Multiply", both(number.Multiply(a, swap)), is([][]api.Rat{{"2", "1"}, {"4", "3"}}))
	want(t, "Multiply in the other order", both(number.Multiply(swap, a)), is([][]api.Rat{{"3", "4"}, {"1", "2"}}))
	want(t, "Multiply a row by a column", both(number.Multiply([][]api.Rat{{"1", "2", "3"}}, [][]api.Rat{{"1"}, {"1/2"}, {"-1"}})), is([][]api.Rat{{"-1"}}))
	want(t, "Multiply a column by a row", both(number.Multiply([][]api.Rat{{"2"}, {"-1"}}, [][]api.Rat{{"3", "1/2"}})), is([][]api.Rat{{"6", "1"}, {"-3", "-1/2"}}))
	want(t, "Solve", both(number.Solve(a, []api.Rat{"5", "11"})), is([]api.Rat{"1", "2"}))
	want(t, "Solve with more rows", both(number.Solve([][]api.Rat{{"2"}, {"4"}, {"0"}}, []api.Rat{"1", "2", "0"})), is([]api.Rat{"1/2"}))
	want(t, "Solve with a pivot of 0", both(number.Solve(swap, []api.Rat{"5", "11"})), is([]api.Rat{"11", "5"}))
	wide := [][]api.Rat{{"1", "2", "3"}, {"2", "4", "6"}}
	want(t, "Rank", both(number.Rank(wide)), is(1))
	want(t, "Kernel", both(number.Kernel(wide)), is([][]api.Rat{{"1", "0", "-1/3"}, {"0", "1", "-2/3"}}))
	want(t, "Kernel of a regular matrix", both(number.Kernel(a)), is([][]api.Rat(nil)))
	want(t, "Kernel of zeros", both(number.Kernel([][]api.Rat{{"0", "0"}})), is([][]api.Rat{{"1", "0"}, {"0", "1"}}))
	want(t, "Kernel with a zero column", both(number.Kernel([][]api.Rat{{"0", "1", "0"}})), is([][]api.Rat{{"1", "0", "0"}, {"0", "0", "1"}}))
	want(t, "Kernel of one row", both(number.Kernel([][]api.Rat{{"1", "-1", "0"}})), is([][]api.Rat{{"1", "1", "0"}, {"0", "0", "1"}}))
	want(t, "Rank of zeros", both(number.Rank([][]api.Rat{{"0", "0"}, {"0", "0"}})), is(0))
}

func TestSingularMatrices(t *testing.T) {
	for _, row := range []struct {
		m [][]api.Rat
		b []api.Rat
	}{
		{[][]api.Rat{{"2"}, {"4"}}, []api.Rat{"1", "1"}},
		{[][]api.Rat{{"1", "1"}}, []api.Rat{"1"}},
		{[][]api.Rat{{"1", "2"}, {"2", "4"}}, []api.Rat{"1", "2"}},
		{[][]api.Rat{{"1", "2"}, {"2", "4"}}, []api.Rat{"1", "3"}},
		{[][]api.Rat{{"0"}}, []api.Rat{"0"}},
		{[][]api.Rat{{"0"}}, []api.Rat{"1"}},
		{[][]api.Rat{{"0", "1"}, {"0", "1"}}, []api.Rat{"1", "2"}},
	} {
		want(t, "Solve", both(number.Solve(row.m, row.b)), fails[[]api.Rat](api.ErrSingular))
	}
}

// filled returns a matrix with the same number everywhere.
func filled(rows, columns int, a api.Rat) [][]api.Rat {
	m := make([][]api.Rat, rows)
	for i := range m {
		for range columns {
			m[i] = append(m[i], a)
		}
	}
	return m
}

func TestMatricesAtTheirEnds(t *testing.T) {
	full := filled(64, 64, "1")
	want(t, "CheckMatrix", number.CheckMatrix(full), api.OK)
	want(t, "Rank", both(number.Rank(full)), is(1))
	want(t, "Multiply", both(number.Multiply(full, full)), is(filled(64, 64, "64")))
	large := fails[[][]api.Rat](api.ErrLarge)
	want(t, "Multiply with a large result", both(number.Multiply([][]api.Rat{{nines600, "1"}}, [][]api.Rat{{"1"}, {"1"}})), large)
	want(t, "Multiply with results that cancel", both(number.Multiply([][]api.Rat{{nines600, nines600}}, [][]api.Rat{{nines600}, {"-" + nines600}})), is([][]api.Rat{{"0"}}))
	want(t, "Solve with a large result", both(number.Solve([][]api.Rat{{"1/" + nines600}}, []api.Rat{"2"})), fails[[]api.Rat](api.ErrLarge))
	want(t, "Solve with large numbers", both(number.Solve([][]api.Rat{{nines600, "1"}, {"1", nines600}}, []api.Rat{nines600, "1"})), is([]api.Rat{"1", "0"}))
	want(t, "Solve of singular equations with large numbers", both(number.Solve([][]api.Rat{{"1/" + nines600, "0"}}, []api.Rat{"2"})), fails[[]api.Rat](api.ErrSingular))
	want(t, "Kernel with a large result", both(number.Kernel([][]api.Rat{{nines600, "1/2"}})), large)
	want(t, "Rank with large numbers", both(number.Rank([][]api.Rat{{nines600, "1/" + nines600}, {"1/" + nines600, nines600}})), is(2))
}

// TestLargeMatrices has matrices with the greatest size.
func TestLargeMatrices(t *testing.T) {
	random := rand.New(rand.NewSource(52))
	m := matrix(random, 64, 64, 64)
	rank := rankOf(m)
	want(t, "Rank", both(number.Rank(rats(m))), is(rank))
	checkSolve(t, random, m, rank)
	dependent := matrix(random, 64, 20, 13)
	basis, e := number.Kernel(rats(dependent))
	want(t, "Kernel", e, api.OK)
	checkBasis(t, dependent, basis)
	flat := matrix(random, 9, 64, 7)
	basis, e = number.Kernel(rats(flat))
	want(t, "Kernel", e, api.OK)
	checkBasis(t, flat, basis)
}

// wrongMatrices are matrices with their errors.
func wrongMatrices() []struct {
	m [][]api.Rat
	e api.Errno
} {
	long := filled(1, 65, "x")[0]
	return []struct {
		m [][]api.Rat
		e api.Errno
	}{
		{nil, api.ErrEmpty},
		{[][]api.Rat{}, api.ErrEmpty},
		{make([][]api.Rat, 65), api.ErrMany},
		{filled(65, 1, "1"), api.ErrMany},
		{[][]api.Rat{{}}, api.ErrEmpty},
		{[][]api.Rat{{"1"}, nil}, api.ErrEmpty},
		{[][]api.Rat{long}, api.ErrMany},
		{[][]api.Rat{{"1"}, long}, api.ErrMany},
		{[][]api.Rat{{"1"}, {"1", "2"}}, api.ErrShape},
		{[][]api.Rat{{"1", "2"}, {"1"}}, api.ErrShape},
		{[][]api.Rat{{"1", "2"}, {"x"}}, api.ErrShape},
		{[][]api.Rat{{"1", "x"}, {"1"}}, api.ErrForm},
		{[][]api.Rat{{"1", "2/4"}}, api.ErrForm},
		{[][]api.Rat{{digits601, "x"}}, api.ErrLarge},
		{[][]api.Rat{{"1", "2"}, {"3", digits601}, nil}, api.ErrLarge},
	}
}

func TestWrongMatrices(t *testing.T) {
	good := [][]api.Rat{{"1", "2"}, {"3", "4"}}
	for _, row := range wrongMatrices() {
		want(t, "CheckMatrix", number.CheckMatrix(row.m), row.e)
		want(t, "Rank", both(number.Rank(row.m)), fails[int](row.e))
		want(t, "Kernel", both(number.Kernel(row.m)), fails[[][]api.Rat](row.e))
		want(t, "Multiply of a wrong first matrix", both(number.Multiply(row.m, [][]api.Rat{{"x"}, {}})), fails[[][]api.Rat](row.e))
		want(t, "Multiply of a wrong second matrix", both(number.Multiply(good, row.m)), fails[[][]api.Rat](row.e))
		want(t, "Solve of a wrong matrix", both(number.Solve(row.m, []api.Rat{"1/x", digits601})), fails[[]api.Rat](row.e))
	}
	shape := fails[[][]api.Rat](api.ErrShape)
	want(t, "Multiply of unequal sizes", both(number.Multiply([][]api.Rat{{"1"}}, good)), shape)
	want(t, "Multiply of unequal sizes", both(number.Multiply(good, [][]api.Rat{{"1", "2"}})), shape)
	for _, row := range []struct {
		b []api.Rat
		e api.Errno
	}{
		{nil, api.ErrShape},
		{[]api.Rat{"5"}, api.ErrShape},
		{[]api.Rat{"5", "6", "7"}, api.ErrShape},
		{filled(1, 300, "1")[0], api.ErrShape},
		{[]api.Rat{"x"}, api.ErrForm},
		{[]api.Rat{"1", digits601, "x"}, api.ErrLarge},
		{[]api.Rat{"1", "x", digits601}, api.ErrForm},
	} {
		want(t, "Solve with a wrong right side", both(number.Solve(good, row.b)), fails[[]api.Rat](row.e))
		want(t, "Solve of singular equations with a wrong right side", both(number.Solve(filled(2, 2, "0"), row.b)), fails[[]api.Rat](row.e))
	}
}

func TestMatricesAreKept(t *testing.T) {
	m, other, right := [][]api.Rat{{"2", "1"}, {"4", "3"}}, [][]api.Rat{{"1", "0"}, {"0", "1"}}, []api.Rat{"1", "2"}
	results, _ := number.Multiply(m, other)
	want(t, "Multiply", results, m)
	results[0][0] = "changed"
	results, _ = number.Kernel([][]api.Rat{{"0", "0"}})
	results[0][0] = "changed"
	number.Solve(m, right)
	number.Rank(m)
	want(t, "matrix", m, [][]api.Rat{{"2", "1"}, {"4", "3"}})
	want(t, "other matrix", other, [][]api.Rat{{"1", "0"}, {"0", "1"}})
	want(t, "right side", right, []api.Rat{"1", "2"})
	want(t, "vector of a kernel", results[1], []api.Rat{"0", "1"})
}
