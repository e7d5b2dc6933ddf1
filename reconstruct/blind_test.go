package reconstruct_test

import (
	"math/rand"
	"slices"
	"testing"

	"lenslet/api"
	"lenslet/reconstruct"
)

// P5.2

func TestBlindExamples(t *testing.T) {
	d := example()
	want(t, "CheckInteraction", reconstruct.CheckInteraction(d), api.OK)
	want(t, "Rank", both(reconstruct.Rank(d)), is(2))
	want(t, "Unseen", both(reconstruct.Unseen(d)), is[[]int](nil))
	want(t, "Blind", both(reconstruct.Blind(d)), is(rows("1 1 1")))
	want(t, "CheckBlind", reconstruct.CheckBlind(d, rows("1 1 1")), api.OK)
	want(t, "Controlled", both(reconstruct.Controlled(d)), is(rows("1 0 -1; 0 1 -1")))
	want(t, "Split", splitOf(d, list("3 0 0")), is(parts{list("2 -1 -1"), list("1 1 1")}))
	rest := rows("0 1 -1")
	want(t, "Unseen of a dropped one", both(reconstruct.Unseen(rest)), is([]int{0}))
	want(t, "Blind of a dropped one", both(reconstruct.Blind(rest)), is(rows("1 0 0; 0 1 1")))
}

// checkEchelon reports vectors that are not in reduced echelon form.
func checkEchelon(t *testing.T, basis [][]api.Rat) {
	t.Helper()
	last := -1
	for i, v := range basis {
		pivot := slices.IndexFunc(v, func(a api.Rat) bool { return a != "0" })
		if pivot <= last || v[pivot] != "1" {
			t.Fatalf("the vector %v is not in echelon form", v)
		}
		last = pivot
		for k := range basis {
			if k != i && basis[k][pivot] != "0" {
				t.Fatalf("the vector %v is not reduced", basis[k])
			}
		}
	}
}

// checkSpaces compares all that is told of the commands of a matrix with the definitions.
func checkSpaces(t *testing.T, m matrix) (blind, controlled [][]api.Rat) {
	t.Helper()
	d, columns, rank := m.rats(), len(m[0]), m.rank()
	want(t, "CheckInteraction", reconstruct.CheckInteraction(d), api.OK)
	want(t, "Rank", both(reconstruct.Rank(d)), is(rank))
	var unseen []int
	for k := range columns {
		if m.column(k).isZero() {
			unseen = append(unseen, k)
		}
	}
	want(t, "Unseen", both(reconstruct.Unseen(d)), is(unseen))
	blind, e := reconstruct.Blind(d)
	want(t, "error of Blind", e, api.OK)
	want(t, "blind modes", len(blind), columns-rank)
	checkEchelon(t, blind)
	for _, v := range blind {
		want(t, "a blind mode", m.apply(values(v)).isZero(), true)
	}
	want(t, "CheckBlind", reconstruct.CheckBlind(d, blind), api.OK)
	controlled, e = reconstruct.Controlled(d)
	want(t, "error of Controlled", e, api.OK)
	want(t, "controlled modes", len(controlled), rank)
	checkEchelon(t, controlled)
	for _, v := range valueRows(controlled) {
		want(t, "a controlled mode", valueRows(blind).apply(v).isZero(), true)
	}
	return blind, controlled
}

func TestBlind(t *testing.T) {
	random := rand.New(rand.NewSource(11))
	for range 200 {
		m := someInteraction(random, 6, 6)
		blind, _ := checkSpaces(t, m)
		checkWrongBases(t, random, m.rats(), blind)
	}
	for _, m := range []matrix{
		someMatrix(random, 1, 1, 1), someMatrix(random, 1, 16, 1), someMatrix(random, 64, 1, 1),
		someMatrix(random, 64, 16, 16), someMatrix(random, 64, 16, 5), someMatrix(random, 16, 16, 16), someMatrix(random, 64, 16, 0),
	} {
		checkSpaces(t, m)
	}
}

// checkWrongBases looks whether bases that are not the blind basis are told from it.
func checkWrongBases(t *testing.T, random *rand.Rand, d, blind [][]api.Rat) {
	t.Helper()
	refused := func(what string, basis [][]api.Rat) {
		t.Helper()
		want(t, what, reconstruct.CheckBlind(d, basis), api.ErrProof)
	}
	columns := len(d[0])
	if len(blind) > 0 {
		refused("a basis without its last vector", blind[:len(blind)-1])
		refused("a basis without its first vector", blind[1:])
		twice := valueRows(blind)
		twice[0] = twice[0].scaled(integer(2))
		refused("a multiple of a vector", twice.rats())
		changed := valueRows(blind)
		j := random.Intn(columns)
		changed[len(blind)-1][j].Add(changed[len(blind)-1][j], integer(1))
		refused("another number", changed.rats())
	}
	if len(blind) > 1 {
		swapped := slices.Clone(blind)
		swapped[0], swapped[1] = swapped[1], swapped[0]
		refused("another order", swapped)
		sum := valueRows(blind)
		sum[0] = sum[0].plus(sum[1])
		refused("a vector that is not reduced", sum.rats())
	}
	if len(blind) < api.MaxActuators {
		refused("a further vector 0", append(slices.Clone(blind), repeated("0", columns)))
		refused("a further vector", append(slices.Clone(blind), repeated("1", columns)))
	}
}

func TestBlindOfExtremeMatrices(t *testing.T) {
	unit := func(n int) [][]api.Rat {
		m := filled(n, n, "0")
		for i := range m {
			m[i][i] = "1"
		}
		return m
	}
	zero := filled(64, 16, "0")
	want(t, "Blind of zeros", both(reconstruct.Blind(zero)), is(unit(16)))
	want(t, "Controlled of zeros", both(reconstruct.Controlled(zero)), is[[][]api.Rat](nil))
	want(t, "CheckBlind of zeros", reconstruct.CheckBlind(zero, unit(16)), api.OK)
	want(t, "CheckBlind of zeros", reconstruct.CheckBlind(zero, nil), api.ErrProof)
	want(t, "Rank of zeros", both(reconstruct.Rank(zero)), is(0))
	want(t, "Unseen of zeros", both(reconstruct.Unseen(filled(2, 3, "0"))), is([]int{0, 1, 2}))
	command := someList(rand.New(rand.NewSource(12)), 16).rats()
	want(t, "Split of zeros", splitOf(zero, command), is(parts{repeated("0", 16), command}))
	want(t, "Blind without blind modes", both(reconstruct.Blind(unit(16))), is[[][]api.Rat](nil))
	want(t, "CheckBlind without blind modes", reconstruct.CheckBlind(unit(16), [][]api.Rat{}), api.OK)
	want(t, "CheckBlind without blind modes", reconstruct.CheckBlind(unit(16), unit(16)), api.ErrProof)
	want(t, "Controlled without blind modes", both(reconstruct.Controlled(unit(16))), is(unit(16)))
	want(t, "Split without blind modes", splitOf(unit(16), command), is(parts{command, repeated("0", 16)}))
	want(t, "Unseen", both(reconstruct.Unseen(rows("0 1 0 0; 0 0 0 1"))), is([]int{0, 2}))
	want(t, "Split of a single actuator", splitOf(single(), list("-7/2")), is(parts{list("-7/2"), list("0")}))
}

func TestSplit(t *testing.T) {
	random := rand.New(rand.NewSource(13))
	for range 200 {
		m := someInteraction(random, 5, 6)
		x := someList(random, len(m[0]))
		r := splitOf(m.rats(), x.rats())
		want(t, "error of Split", r.Error, api.OK)
		seen, blind := values(r.Value.Seen), values(r.Value.Blind)
		want(t, "the sum of the parts", seen.plus(blind).rats(), x.rats())
		want(t, "the slopes of the blind part", m.apply(blind).isZero(), true)
		basis, _ := reconstruct.Blind(m.rats())
		want(t, "the seen part", valueRows(basis).apply(seen).isZero(), true)
	}
}

func TestBlindOfManyDigits(t *testing.T) {
	wide := [][]api.Rat{{"1/" + nines600, nines600}}
	want(t, "Rank", both(reconstruct.Rank(wide)), is(1))
	want(t, "Unseen", both(reconstruct.Unseen(wide)), is[[]int](nil))
	want(t, "Blind", both(reconstruct.Blind(wide)), fails[[][]api.Rat](api.ErrLarge))
	want(t, "Controlled", both(reconstruct.Controlled(wide)), fails[[][]api.Rat](api.ErrLarge))
	want(t, "CheckBlind", reconstruct.CheckBlind(wide, rows("1 1")), api.ErrProof)
	large := [][]api.Rat{{nines600, nines600, "1"}}
	want(t, "Blind", both(reconstruct.Blind(large)), is([][]api.Rat{{"1", "0", "-" + nines600}, {"0", "1", "-" + nines600}}))
	want(t, "Controlled", both(reconstruct.Controlled(large)), is([][]api.Rat{{"1", "1", "1/" + nines600}}))
	steep := [][]api.Rat{{"1", power10(300)}}
	want(t, "Split", splitOf(steep, list("1 0")), fails[parts](api.ErrLarge))
	want(t, "Split of a seen command", splitOf(steep, steep[0]), is(parts{steep[0], list("0 0")}))
	blind := []api.Rat{power10(300), "-1"}
	want(t, "Split of a blind command", splitOf(steep, blind), is(parts{list("0 0"), blind}))
	even := rows("1 1")
	want(t, "a seen part with too many digits", splitOf(even, []api.Rat{nines600, "8" + nines600[1:599] + "8"}), fails[parts](api.ErrLarge))
	want(t, "a blind part with too many digits", splitOf(even, []api.Rat{nines600, "-" + nines600[1:] + "8"}), fails[parts](api.ErrLarge))
}

func TestWrongMatrices(t *testing.T) {
	for _, w := range wrongMatrices(api.MaxSlopes, api.MaxActuators) {
		want(t, "CheckInteraction", reconstruct.CheckInteraction(w.rows), w.e)
		want(t, "Rank", both(reconstruct.Rank(w.rows)), fails[int](w.e))
		want(t, "Unseen", both(reconstruct.Unseen(w.rows)), fails[[]int](w.e))
		want(t, "Blind", both(reconstruct.Blind(w.rows)), fails[[][]api.Rat](w.e))
		want(t, "CheckBlind", reconstruct.CheckBlind(w.rows, filled(17, 1, "?")), w.e)
		want(t, "Controlled", both(reconstruct.Controlled(w.rows)), fails[[][]api.Rat](w.e))
		want(t, "Split", splitOf(w.rows, list("?")), fails[parts](w.e))
	}
	for _, d := range [][][]api.Rat{filled(64, 16, "0"), filled(1, 1, nines600), filled(64, 1, "1/"+nines600), filled(1, 16, "-3/2")} {
		want(t, "CheckInteraction", reconstruct.CheckInteraction(d), api.OK)
	}
}

func TestWrongBlindArguments(t *testing.T) {
	for _, w := range wrongLists(3) {
		want(t, "Split", splitOf(example(), w.list), fails[parts](w.e))
	}
	for _, w := range wrongVectors(3) {
		want(t, "CheckBlind", reconstruct.CheckBlind(example(), w.rows), w.e)
	}
	want(t, "CheckBlind with 17 vectors", reconstruct.CheckBlind(example(), make([][]api.Rat, 17)), api.ErrMany)
	want(t, "CheckBlind with 17 vectors", reconstruct.CheckBlind(example(), filled(17, 3, "1")), api.ErrMany)
	want(t, "CheckBlind with 16 vectors", reconstruct.CheckBlind(example(), filled(16, 3, "1")), api.ErrProof)
	want(t, "CheckBlind without vectors", reconstruct.CheckBlind(example(), nil), api.ErrProof)
}
