package linear

import (
	"math/rand"
	"testing"

	"lenslet/exact"
)

// matrix returns a matrix of fractions; the last rows are sums of the first ones, so that its rank is at most the given one.
func matrix(random *rand.Rand, rows, columns, rank int) [][]exact.Number {
	m := make([][]exact.Number, rows)
	for i := range m {
		m[i] = make([]exact.Number, columns)
		for j := range m[i] {
			if i < rank {
				m[i][j] = exact.Of(random.Intn(7)-3, 1+random.Intn(4))
			} else if rank > 0 {
				m[i][j] = m[i%rank][j].Mul(exact.Of(i, 3)).Sub(m[(i+1)%rank][j])
			}
		}
	}
	random.Shuffle(rows, func(i, k int) { m[i], m[k] = m[k], m[i] })
	return m
}

// list returns numbers.
func list(random *rand.Rand, n int) []exact.Number {
	l := make([]exact.Number, n)
	for i := range l {
		l[i] = exact.Of(random.Intn(19)-9, 1+random.Intn(5))
	}
	return l
}

// equal reports whether two lists have the same numbers.
func equal(a, b []exact.Number) bool {
	for i, x := range a {
		if x.Compare(b[i]) != 0 {
			return false
		}
	}
	return len(a) == len(b)
}

func TestReducedAndKernel(t *testing.T) {
	random := rand.New(rand.NewSource(1))
	one := exact.Of(1, 1)
	for range 400 {
		rows, columns := 1+random.Intn(6), 1+random.Intn(6)
		m := matrix(random, rows, columns, random.Intn(rows+1))
		e := Reduced(m)
		for i, pivot := range e.pivots {
			if i > 0 && pivot <= e.pivots[i-1] {
				t.Fatalf("pivots %v", e.pivots)
			}
			for k := range e.pivots {
				if want := (map[bool]exact.Number{true: one})[i == k]; e.At(k, pivot).Compare(want) != 0 {
					t.Fatalf("column %d of the echelon form", pivot)
				}
			}
			for j := range pivot {
				if e.At(i, j).Sign() != 0 {
					t.Fatalf("row %d of the echelon form", i)
				}
			}
		}
		if len(e.Rows()) != e.Rank() {
			t.Fatalf("%d rows for the rank %d", len(e.Rows()), e.Rank())
		}
		for i, row := range e.Rows() {
			for j, x := range row {
				if len(row) != columns || !x.Equal(e.At(i, j)) {
					t.Fatalf("row %d, column %d of the echelon form", i, j)
				}
			}
		}
		basis := Kernel(m)
		if len(basis)+e.Rank() != columns {
			t.Fatalf("%d vectors for the rank %d of %d columns", len(basis), e.Rank(), columns)
		}
		for _, vector := range basis {
			if !equal(Apply(m, vector), make([]exact.Number, rows)) {
				t.Fatal("a vector that is not in the kernel")
			}
		}
	}
}

func TestSolve(t *testing.T) {
	random := rand.New(rand.NewSource(2))
	for range 400 {
		columns := 1 + random.Intn(5)
		rows := columns + random.Intn(3)
		m := matrix(random, rows, columns, random.Intn(rows+1))
		x := list(random, columns)
		got, single := Solve(m, Apply(m, x))
		if single != (Reduced(m).Rank() == columns) || single && !equal(got, x) || !single && got != nil {
			t.Fatalf("Solve: got %v, %v", got, single)
		}
	}
	two := [][]exact.Number{{exact.Of(1, 1)}, {exact.Of(2, 1)}}
	if _, single := Solve(two, []exact.Number{exact.Of(1, 1), exact.Of(1, 1)}); single {
		t.Error("Solve of contradictory equations")
	}
}

func TestQuotient(t *testing.T) {
	random := rand.New(rand.NewSource(6))
	for range 400 {
		columns := 1 + random.Intn(5)
		rows := columns + random.Intn(3)
		m := matrix(random, rows, columns, random.Intn(rows+1))
		x := matrix(random, columns, 1+random.Intn(4), columns)
		right := Multiply(m, x)
		got, single := Quotient(m, right)
		if single != (Reduced(m).Rank() == columns) || !single && got != nil {
			t.Fatalf("Quotient: got %v, %v", got, single)
		}
		for i, row := range got {
			if !equal(row, x[i]) {
				t.Fatalf("Quotient: row %d is %v", i, row)
			}
		}
		last := len(right[0]) - 1
		right[0][last] = right[0][last].Add(exact.Of(1, 1))
		got, single = Quotient(m, right)
		for i, row := range Multiply(m, got) {
			if single && !equal(row, right[i]) {
				t.Fatal("Quotient of contradictory equations")
			}
		}
	}
}

func TestMultiply(t *testing.T) {
	random := rand.New(rand.NewSource(7))
	m, x := matrix(random, 3, 4, 3), list(random, 4)
	rows := Multiply(m, Transposed([][]exact.Number{x, m[1]}))
	for i, row := range rows {
		if !equal(row, []exact.Number{Product(m[i], x), Product(m[i], m[1])}) {
			t.Errorf("row %d of the product", i)
		}
	}
	if len(rows) != len(m) {
		t.Errorf("%d rows", len(rows))
	}
}

func TestArgumentsAreKept(t *testing.T) {
	random := rand.New(rand.NewSource(3))
	m := matrix(random, 4, 4, 4)
	before := make([][]exact.Number, len(m))
	for i, row := range m {
		before[i] = append(before[i], row...)
	}
	Reduced(m)
	Kernel(m)
	Solve(m, list(random, 4))
	Quotient(m, m)
	Multiply(m, m)
	for i, row := range m {
		if !equal(row, before[i]) {
			t.Errorf("row %d was changed", i)
		}
	}
}

func TestEmpty(t *testing.T) {
	if _, single := Solve(nil, nil); single {
		t.Error("Solve without equations")
	}
	if x, single := Solve([][]exact.Number{{}}, make([]exact.Number, 1)); !single || len(x) != 0 {
		t.Error("Solve without unknowns")
	}
	if _, single := Solve([][]exact.Number{{}}, []exact.Number{exact.Of(1, 1)}); single {
		t.Error("Solve of 0 = 1")
	}
	if Reduced(nil).Rank() != 0 || Kernel(nil) != nil || Transposed[int](nil) != nil || Product(nil, nil).Sign() != 0 {
		t.Error("results for an empty matrix")
	}
}

func TestTransposed(t *testing.T) {
	random := rand.New(rand.NewSource(4))
	m := matrix(random, 3, 5, 3)
	columns := Transposed(m)
	for i, row := range m {
		for j, x := range row {
			if columns[j][i].Compare(x) != 0 {
				t.Errorf("row %d, column %d", i, j)
			}
		}
	}
	for j, column := range Columns(m) {
		if j > 2 {
			t.Error("a column after the end of the loop")
		}
		if !equal(column, columns[j]) {
			t.Errorf("column %d", j)
		}
		if j == 2 {
			break
		}
	}
}

func TestApply(t *testing.T) {
	m := [][]exact.Number{{exact.Of(1, 2), exact.Of(3, 1)}, {{}, exact.Of(-1, 1)}, {exact.Of(4, 1), {}}}
	wanted := []exact.Number{exact.Of(4, 1), exact.Of(-1, 1), exact.Of(8, 1)}
	if got := Apply(m, []exact.Number{exact.Of(2, 1), exact.Of(1, 1)}); !equal(got, wanted) {
		t.Errorf("Apply: %v", got)
	}
	if got := Apply(nil, nil); len(got) != 0 {
		t.Errorf("Apply without rows: %v", got)
	}
}

func TestOrthogonal(t *testing.T) {
	random := rand.New(rand.NewSource(5))
	for range 400 {
		rows, columns := 1+random.Intn(5), 1+random.Intn(6)
		m := matrix(random, rows, columns, random.Intn(rows+1))
		results, independent := Orthogonal(m)
		if independent != (Reduced(m).Rank() == rows) || !independent && results != nil {
			t.Fatalf("Orthogonal: independent is %v", independent)
		}
		for i, row := range results {
			rest := row
			for k, before := range results[:i] {
				if Product(row, before).Sign() != 0 {
					t.Fatalf("rows %d and %d are not orthogonal", i, k)
				}
				factor := Product(m[i], before).Quo(Product(before, before))
				rest = append([]exact.Number{}, rest...)
				for j, x := range before {
					rest[j] = rest[j].Add(x.Mul(factor))
				}
			}
			if !equal(rest, m[i]) {
				t.Fatalf("row %d is not the given one less its projections", i)
			}
		}
	}
	if results, independent := Orthogonal(nil); !independent || len(results) != 0 {
		t.Error("Orthogonal without rows")
	}
}
