package reconstruct_test

import (
	"math/big"
	"math/rand"
	"slices"
	"testing"

	"lenslet/api"
	"lenslet/reconstruct"
)

// P5.5

// ok returns a result, and reports an error beside it.
func ok[T any](t *testing.T, value T, e api.Errno) T {
	t.Helper()
	want(t, "the error", e, api.OK)
	return value
}

// problem is an interaction matrix with weights, slopes and their least-squares command.
type problem struct {
	m                      matrix
	d                      [][]api.Rat
	weights, slopes, least []api.Rat
}

// someProblem returns a problem.
func someProblem(t *testing.T, random *rand.Rand) problem {
	t.Helper()
	m := someInteraction(random, 6, 5)
	p := problem{m: m, d: m.rats(), weights: someWeights(random, len(m)).rats(), slopes: someList(random, len(m)).rats()}
	r, e := reconstruct.Reconstructor(p.d, p.weights)
	p.least, e = reconstruct.Apply(ok(t, r, e), p.slopes)
	ok(t, p.least, e)
	return p
}

// cost returns the cost of a command.
func (p problem) cost(t *testing.T, command []api.Rat) *big.Rat {
	t.Helper()
	cost, e := reconstruct.Cost(p.d, p.weights, p.slopes, command)
	return value(ok(t, cost, e))
}

// length returns the sum of the squares of a command.
func length(command []api.Rat) *big.Rat { return values(command).dot(values(command)) }

func TestLeastSquares(t *testing.T) {
	random := rand.New(rand.NewSource(41))
	for range 100 {
		p := someProblem(t, random)
		least := p.cost(t, p.least)
		n := len(p.least)
		others := []numbers{someList(random, n), values(p.least).plus(someList(random, n).scaled(big.NewRat(1, 100)))}
		blind, _ := reconstruct.Blind(p.d)
		for _, mode := range valueRows(blind) {
			others = append(others, values(p.least).plus(mode), values(p.least).minus(mode))
		}
		for _, x := range others {
			order := p.cost(t, x.rats()).Cmp(least)
			same := slices.Equal(x.rats(), p.least)
			if order < 0 || order == 0 && !same && length(x.rats()).Cmp(length(p.least)) <= 0 {
				t.Fatalf("the command %v is better than %v for %v", x.rats(), p.least, p.d)
			}
		}
		residual, e := reconstruct.Residual(p.d, p.slopes, p.least)
		weighted := values(ok(t, residual, e))
		for i, w := range values(p.weights) {
			weighted[i] = times(w, weighted[i])
		}
		for k := range n {
			want(t, "the residual along a column", p.m.column(k).dot(weighted).Sign(), 0)
		}
	}
}

func TestReconstructedCommands(t *testing.T) {
	random := rand.New(rand.NewSource(42))
	for range 100 {
		p := someProblem(t, random)
		command := someList(random, len(p.least)).rats()
		slopes, e := reconstruct.Apply(p.d, command)
		r, _ := reconstruct.Reconstructor(p.d, p.weights)
		again, e := reconstruct.Apply(r, ok(t, slopes, e))
		seen, _, _ := reconstruct.Split(p.d, command)
		want(t, "the reconstructed command", ok(t, again, e), seen)
		rank, e := reconstruct.Rank(p.d)
		blind, _ := reconstruct.Blind(p.d)
		want(t, "rank and blind modes", ok(t, rank, e)+len(blind), len(p.least))
	}
}

func TestModalOfControlled(t *testing.T) {
	random := rand.New(rand.NewSource(43))
	for range 100 {
		p := someProblem(t, random)
		basis, e := reconstruct.Controlled(p.d)
		if len(ok(t, basis, e)) == 0 {
			continue
		}
		modal, e := reconstruct.Modal(p.d, p.weights, basis)
		coefficients, e := reconstruct.Apply(ok(t, modal, e), p.slopes)
		command, e := reconstruct.Compose(basis, ok(t, coefficients, e))
		want(t, "the composed command", ok(t, command, e), p.least)
	}
}

func TestDampedCommands(t *testing.T) {
	random := rand.New(rand.NewSource(44))
	for range 100 {
		p := someProblem(t, random)
		last := p.least
		for _, damping := range list("1/1000 1/2 3 1000") {
			r, e := reconstruct.Damped(p.d, p.weights, damping)
			command, e := reconstruct.Apply(ok(t, r, e), p.slopes)
			if length(ok(t, command, e)).Cmp(length(last)) > 0 {
				t.Fatalf("damped by %s, the command %v is longer than %v", damping, command, last)
			}
			if p.cost(t, command).Cmp(p.cost(t, last)) < 0 {
				t.Fatalf("damped by %s, the command %v costs less than %v", damping, command, last)
			}
			last = command
		}
	}
}

func TestEqualPokes(t *testing.T) {
	random := rand.New(rand.NewSource(45))
	for range 50 {
		slopes, actuators := 1+random.Intn(5), 1+random.Intn(5)
		pokes := somePokes(random, slopes, actuators, 0)
		d, e := reconstruct.Interaction(pokes, slopes, actuators)
		ok(t, d, e)
		for k, p := range slices.Clone(pokes) { // the same response with another amount
			factor := big.NewRat(int64(-1-k), 3)
			p.Amount, p.Slopes = rat(times(value(p.Amount), factor)), values(p.Slopes).scaled(factor).rats()
			pokes = slices.Insert(pokes, random.Intn(len(pokes)+1), p, p)
		}
		want(t, "Interaction of equal pokes", both(reconstruct.Interaction(pokes, slopes, actuators)), is(d))
		want(t, "Scatter of equal pokes", both(reconstruct.Scatter(pokes, slopes, actuators)), is(repeated("0", actuators)))
	}
}

func TestPokesOfMatrix(t *testing.T) {
	random := rand.New(rand.NewSource(46))
	for range 50 {
		m := someInteraction(random, 6, 5)
		var pokes []reconstruct.Poke
		for k := range m[0] {
			amount := someWeights(random, 1)[0]
			pokes = append(pokes, reconstruct.Poke{Actuator: k, Amount: rat(amount), Slopes: m.column(k).scaled(amount).rats()})
		}
		slices.Reverse(pokes)
		want(t, "Interaction", both(reconstruct.Interaction(pokes, len(m), len(m[0]))), is(m.rats()))
	}
}
