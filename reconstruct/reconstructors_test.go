package reconstruct_test

import (
	"math/big"
	"math/rand"
	"slices"
	"testing"

	"lenslet/api"
	"lenslet/reconstruct"
)

// P5.3

func TestReconstructorExamples(t *testing.T) {
	ones := list("1 1")
	r := rows("2/3 1/3; -1/3 1/3; -1/3 -2/3")
	want(t, "Reconstructor", both(reconstruct.Reconstructor(example(), ones)), is(r))
	want(t, "CheckReconstructor", reconstruct.CheckReconstructor(example(), ones, r), api.OK)
	want(t, "Reconstructor of equal weights", both(reconstruct.Reconstructor(single(), ones)), is(rows("1/5 2/5")))
	want(t, "Reconstructor of other weights", both(reconstruct.Reconstructor(single(), list("4 1"))), is(rows("1/2 1/4")))
	want(t, "CheckReconstructor of other weights", reconstruct.CheckReconstructor(single(), list("4 1"), rows("1/2 1/4")), api.OK)
	want(t, "CheckReconstructor of wrong weights", reconstruct.CheckReconstructor(single(), list("4 1"), rows("1/5 2/5")), api.ErrProof)
	want(t, "Damped", both(reconstruct.Damped(single(), ones, "5")), is(rows("1/10 1/5")))
	want(t, "Modal", both(reconstruct.Modal(example(), ones, rows("1 0 -1"))), is(rows("1/2 1/2")))
	want(t, "Modal of a blind mode", both(reconstruct.Modal(example(), ones, rows("1 1 1"))), fails[[][]api.Rat](api.ErrSingular))
}

// balance returns the columns of a matrix times the weighted residuals for unit slopes, when their
// commands are the columns of another matrix: it is 0 where the cost is least.
func balance(d matrix, weights numbers, r matrix) matrix {
	var all matrix
	for j := range d {
		slopes := make(numbers, len(d))
		for i := range slopes {
			slopes[i] = integer(0)
		}
		slopes[j] = integer(1)
		residual := slopes.minus(d.apply(r.column(j)))
		for i, w := range weights {
			residual[i] = times(w, residual[i])
		}
		var row numbers
		for k := range d[0] {
			row = append(row, d.column(k).dot(residual))
		}
		all = append(all, row)
	}
	return all
}

// checkReconstructor compares the reconstructor with its definition.
func checkReconstructor(t *testing.T, d matrix, weights numbers) matrix {
	t.Helper()
	r, e := reconstruct.Reconstructor(d.rats(), weights.rats())
	want(t, "error of Reconstructor", e, api.OK)
	want(t, "CheckReconstructor", reconstruct.CheckReconstructor(d.rats(), weights.rats(), r), api.OK)
	m := valueRows(r)
	if len(m) != len(d[0]) || len(m[0]) != len(d) {
		t.Fatalf("Reconstructor of %d by %d has %d rows", len(d), len(d[0]), len(m))
	}
	for _, row := range balance(d, weights, m) {
		want(t, "the balance of the residual", row.isZero(), true)
	}
	blind, _ := reconstruct.Blind(d.rats())
	for j := range d {
		want(t, "the blind part of a command", valueRows(blind).apply(m.column(j)).isZero(), true)
	}
	return m
}

func TestReconstructor(t *testing.T) {
	random := rand.New(rand.NewSource(21))
	for range 150 {
		d := someInteraction(random, 6, 5)
		weights := someWeights(random, len(d))
		r := checkReconstructor(t, d, weights)
		checkWrongReconstructors(t, random, d, weights, r)
	}
	for _, d := range []matrix{
		someMatrix(random, 1, 1, 1), someMatrix(random, 1, 16, 1), someMatrix(random, 64, 1, 1),
		someMatrix(random, 64, 16, 16), someMatrix(random, 20, 16, 5), someMatrix(random, 5, 16, 5),
	} {
		checkReconstructor(t, d, someWeights(random, len(d)))
	}
	for _, size := range [][2]int{{1, 1}, {64, 16}, {3, 5}} {
		zero := filled(size[0], size[1], "0")
		want(t, "Reconstructor of zeros", both(reconstruct.Reconstructor(zero, repeated("7", size[0]))), is(filled(size[1], size[0], "0")))
		want(t, "CheckReconstructor of zeros", reconstruct.CheckReconstructor(zero, repeated("7", size[0]), filled(size[1], size[0], "0")), api.OK)
	}
}

// checkWrongReconstructors looks whether matrices that are not the reconstructor are told from it.
func checkWrongReconstructors(t *testing.T, random *rand.Rand, d matrix, weights numbers, r matrix) {
	t.Helper()
	refused := func(what string, m matrix) {
		t.Helper()
		want(t, what, reconstruct.CheckReconstructor(d.rats(), weights.rats(), m.rats()), api.ErrProof)
	}
	copied := func() matrix {
		var all matrix
		for _, row := range r {
			all = append(all, slices.Clone(row))
		}
		return all
	}
	changed := copied()
	i, j := random.Intn(len(r)), random.Intn(len(d))
	changed[i][j] = plus(changed[i][j], big.NewRat(1, 1000))
	refused("another number", changed)
	blind, _ := reconstruct.Blind(d.rats())
	for _, mode := range valueRows(blind) {
		same := copied() // the cost remains the least
		for i, x := range mode {
			same[i][j] = plus(same[i][j], x)
		}
		refused("a command with a blind part", same)
	}
	controlled, _ := reconstruct.Controlled(d.rats())
	for _, mode := range valueRows(controlled) {
		far := copied() // without a blind part
		for i, x := range mode {
			far[i][j] = minus(far[i][j], x)
		}
		refused("a command with a greater cost", far)
	}
}

// checkFit looks whether the cost of coefficients, with the damping, is least.
func checkFit(t *testing.T, e matrix, weights numbers, damping *big.Rat, r matrix) {
	t.Helper()
	want(t, "the number of rows and columns", [2]int{len(r), len(r[0])}, [2]int{len(e[0]), len(e)})
	for j, row := range balance(e, weights, r) {
		want(t, "the balance of the residual", row.rats(), r.column(j).scaled(damping).rats())
	}
}

// productsOf returns the products of a matrix and modes, as columns.
func productsOf(d, modes matrix) matrix {
	var e matrix
	for _, row := range d {
		e = append(e, modes.apply(row))
	}
	return e
}

func TestModal(t *testing.T) {
	random := rand.New(rand.NewSource(22))
	singular := 0
	for range 300 {
		d := someInteraction(random, 6, 5)
		weights := someWeights(random, len(d))
		count := 1 + random.Intn(4)
		modes := someMatrix(random, count, len(d[0]), min(count, 1+random.Intn(4)))
		e := productsOf(d, modes)
		r, code := reconstruct.Modal(d.rats(), weights.rats(), modes.rats())
		if e.rank() < len(modes) {
			singular++
			want(t, "Modal of dependent products", both(r, code), fails[[][]api.Rat](api.ErrSingular))
			continue
		}
		want(t, "error of Modal", code, api.OK)
		checkFit(t, e, weights, integer(0), valueRows(r))
	}
	if singular < 50 || singular > 250 {
		t.Errorf("%d of 300 modes are singular", singular)
	}
	d := someMatrix(random, 64, 16, 16)
	modes := someMatrix(random, 16, 16, 16)
	r, code := reconstruct.Modal(d.rats(), repeated("1", 64), modes.rats())
	want(t, "error of Modal", code, api.OK)
	checkFit(t, productsOf(d, modes), values(repeated("1", 64)), integer(0), valueRows(r))
}

func TestSingularModes(t *testing.T) {
	ones := list("1 1")
	for _, modes := range [][][]api.Rat{
		rows("1 1 1"),                      // blind
		rows("0 0 0"),                      // nothing
		rows("1 0 -1; 2 0 -2"),             // dependent
		rows("1 0 0; 0 1 1"),               // independent, but not their products
		rows("1 0 0; 0 1 0; 0 0 1"),        // more than the rank
		rows("1 0 0; 0 1 0; 0 0 1; 1 1 0"), // more than actuators
		filled(16, 3, "1"),
	} {
		want(t, "Modal", both(reconstruct.Modal(example(), ones, modes)), fails[[][]api.Rat](api.ErrSingular))
	}
	want(t, "Modal of zeros", both(reconstruct.Modal(filled(2, 3, "0"), ones, rows("1 0 0"))), fails[[][]api.Rat](api.ErrSingular))
	want(t, "Modal of independent products", both(reconstruct.Modal(example(), ones, rows("1 0 0; 1 1 0"))), is(rows("1 0; 0 1")))
}

func TestDamped(t *testing.T) {
	random := rand.New(rand.NewSource(23))
	dampings := list("1 1/7 12 1/1000000000 1000000000")
	for k := range 100 {
		d := someInteraction(random, 6, 5)
		weights := someWeights(random, len(d))
		damping := dampings[k%len(dampings)]
		r, e := reconstruct.Damped(d.rats(), weights.rats(), damping)
		want(t, "error of Damped", e, api.OK)
		checkFit(t, d, weights, value(damping), valueRows(r))
	}
	d := someMatrix(random, 64, 16, 9)
	r, e := reconstruct.Damped(d.rats(), repeated("1/2", 64), "1/3")
	want(t, "error of Damped", e, api.OK)
	checkFit(t, d, values(repeated("1/2", 64)), value("1/3"), valueRows(r))
	want(t, "Damped of zeros", both(reconstruct.Damped(filled(2, 3, "0"), list("1 1"), "1/2")), is(filled(3, 2, "0")))
	want(t, "Damped by much", both(reconstruct.Damped(rows("1"), list("1"), "9"+nines600[1:599]+"8")), is([][]api.Rat{{"1/" + nines600}}))
	want(t, "Damped by little", both(reconstruct.Damped(rows("1"), list("1"), "1/"+nines600)), fails[[][]api.Rat](api.ErrLarge))
	want(t, "Damped by little", both(reconstruct.Damped(rows("0; 1"), list("1 "+"1/"+string(nines600[1:])), "1/"+nines600[1:])), is(rows("0 1/2")))
}

func TestReconstructorsOfManyDigits(t *testing.T) {
	want(t, "Reconstructor", both(reconstruct.Reconstructor([][]api.Rat{{nines600}}, list("1"))), is([][]api.Rat{{"1/" + nines600}}))
	want(t, "Reconstructor with a weight", both(reconstruct.Reconstructor([][]api.Rat{{nines600}}, []api.Rat{"1/" + nines600})), is([][]api.Rat{{"1/" + nines600}}))
	tall := [][]api.Rat{{power10(300)}, {"1"}}
	want(t, "Reconstructor of a tall matrix", both(reconstruct.Reconstructor(tall, list("1 1"))), fails[[][]api.Rat](api.ErrLarge))
	want(t, "CheckReconstructor of a tall matrix", reconstruct.CheckReconstructor(tall, list("1 1"), rows("0 0")), api.ErrProof)
	heavy := []api.Rat{nines600, "1/" + nines600}
	want(t, "Reconstructor with large weights", both(reconstruct.Reconstructor(rows("1; 1"), heavy)), fails[[][]api.Rat](api.ErrLarge))
	want(t, "Reconstructor with equal large weights", both(reconstruct.Reconstructor(rows("1; 1"), repeated(nines600, 2))), is(rows("1/2 1/2")))
	want(t, "Damped", both(reconstruct.Damped(rows("1"), list("1"), nines600)), fails[[][]api.Rat](api.ErrLarge))
	want(t, "Modal of a small mode", both(reconstruct.Modal(rows("1"), list("1"), [][]api.Rat{{"1/" + nines600}})), is([][]api.Rat{{nines600}}))
	want(t, "Modal of a small mode with a small slope", both(reconstruct.Modal(rows("1/10"), list("1"), [][]api.Rat{{"1/" + nines600}})), fails[[][]api.Rat](api.ErrLarge))
}

// reconstructors returns what the functions with a matrix and weights return for them, when all other
// arguments are wrong.
func reconstructors(d [][]api.Rat, weights []api.Rat) map[string]result[[][]api.Rat] {
	return map[string]result[[][]api.Rat]{
		"Reconstructor":      both(reconstruct.Reconstructor(d, weights)),
		"CheckReconstructor": both([][]api.Rat(nil), reconstruct.CheckReconstructor(d, weights, rows("?"))),
		"Modal":              both(reconstruct.Modal(d, weights, nil)),
		"Damped":             both(reconstruct.Damped(d, weights, "?")),
	}
}

func TestWrongReconstructorArguments(t *testing.T) {
	for _, w := range wrongMatrices(api.MaxSlopes, api.MaxActuators) {
		for what, r := range reconstructors(w.rows, list("?")) {
			want(t, what, r, fails[[][]api.Rat](w.e))
		}
	}
	for _, w := range wrongWeights(2) {
		for what, r := range reconstructors(example(), w.list) {
			want(t, what, r, fails[[][]api.Rat](w.e))
		}
	}
	ones := list("1 1")
	for _, w := range wrongModes(3) {
		want(t, "Modal", both(reconstruct.Modal(example(), ones, w.rows)), fails[[][]api.Rat](w.e))
	}
	for _, w := range append(wrongRats(), wrongRat{"0", api.ErrRange}, wrongRat{"-1", api.ErrRange}, wrongRat{"-1/2", api.ErrRange}) {
		want(t, "Damped", both(reconstruct.Damped(example(), ones, w.a)), fails[[][]api.Rat](w.e))
	}
	for _, r := range [][][]api.Rat{nil, filled(2, 2, "?"), filled(4, 2, "0"), filled(2, 3, "0")} {
		want(t, "CheckReconstructor", reconstruct.CheckReconstructor(example(), ones, r), api.ErrShape)
	}
	for _, w := range wrongLists(2) {
		want(t, "CheckReconstructor", reconstruct.CheckReconstructor(example(), ones, [][]api.Rat{w.list, {"?"}, {}}), w.e)
		want(t, "CheckReconstructor", reconstruct.CheckReconstructor(example(), ones, [][]api.Rat{ones, ones, w.list}), w.e)
	}
}
