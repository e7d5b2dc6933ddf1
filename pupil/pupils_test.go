package pupil_test

import (
	"math/big"
	"math/rand"
	"testing"

	"lenslet/api"
	"lenslet/pupil"
)

// P2.1

// centre returns a coordinate of the centre of a cell.
func centre(k, size int) *big.Rat { return big.NewRat(int64(2*k+1-size), int64(size)) }

// covered reports whether a vane covers a place.
func covered(v pupil.Vane, x, y *big.Rat) bool {
	a, b, h := integer(v.A), integer(v.B), integer(v.H)
	along := over(plus(times(x, a), times(y, b)), h)
	across := over(minus(times(y, a), times(x, b)), h)
	return along.Sign() >= 0 && across.Abs(across).Cmp(value(v.Half)) < 0
}

// inPupil reports whether a cell is in a pupil, by the definition.
func inPupil(p pupil.Pupil, column, row int) bool {
	x, y := centre(column, p.Size), centre(row, p.Size)
	square := plus(times(x, x), times(y, y))
	outer, inner := value(p.Outer), value(p.Inner)
	if square.Cmp(times(inner, inner)) < 0 || square.Cmp(times(outer, outer)) > 0 {
		return false
	}
	for _, v := range p.Vanes {
		if covered(v, x, y) {
			return false
		}
	}
	return true
}

// cells returns the cells in a pupil, by the definition.
func cells(p pupil.Pupil) [][2]int {
	var list [][2]int
	for row := range p.Size {
		for column := range p.Size {
			if inPupil(p, column, row) {
				list = append(list, [2]int{column, row})
			}
		}
	}
	return list
}

// checkCells compares the results for a pupil with its cells.
func checkCells(t *testing.T, p pupil.Pupil, cells [][2]int) {
	t.Helper()
	mask := make([][]bool, p.Size)
	for row := range mask {
		mask[row] = make([]bool, p.Size)
	}
	var places []api.Place
	for _, c := range cells {
		mask[c[1]][c[0]] = true
		places = append(places, api.Place{X: rat(centre(c[0], p.Size)), Y: rat(centre(c[1], p.Size))})
	}
	want(t, "CheckPupil", pupil.CheckPupil(p), api.OK)
	want(t, "Mask", both(pupil.Mask(p)), is(mask))
	want(t, "Cells", both(pupil.Cells(p)), is(cells))
	want(t, "Places", both(pupil.Places(p)), is(places))
}

func TestPupils(t *testing.T) {
	random := rand.New(rand.NewSource(1))
	for range 600 {
		p := somePupil(random)
		checkCells(t, p, cells(p))
	}
}

func TestPupilsOfExamples(t *testing.T) {
	p := example()
	checkCells(t, p, [][2]int{{1, 0}, {2, 0}, {0, 1}, {3, 1}, {0, 2}, {3, 2}, {1, 3}, {2, 3}})
	p.Vanes = []pupil.Vane{{A: 1, B: 0, H: 1, Half: "1/3"}}
	checkCells(t, p, [][2]int{{1, 0}, {2, 0}, {0, 1}, {0, 2}, {1, 3}, {2, 3}})
	p.Vanes = append(p.Vanes, p.Vanes[0])
	checkCells(t, p, [][2]int{{1, 0}, {2, 0}, {0, 1}, {0, 2}, {1, 3}, {2, 3}})
	want(t, "Places", both(pupil.Places(pupil.Pupil{Size: 2, Outer: "1", Inner: "0"})), is([]api.Place{{X: "-1/2", Y: "-1/2"}, {X: "1/2", Y: "-1/2"}, {X: "-1/2", Y: "1/2"}, {X: "1/2", Y: "1/2"}}))
}

// The middle cell of a grid of 5 has its centre in the origin, its neighbours have theirs at 2/5
// and 4/5.
func TestCellsOnEdges(t *testing.T) {
	for what, row := range map[string]struct {
		p     pupil.Pupil
		cells [][2]int
	}{
		"a cell at the outer radius":       {pupil.Pupil{Size: 5, Outer: "2/5", Inner: "0"}, [][2]int{{2, 1}, {1, 2}, {2, 2}, {3, 2}, {2, 3}}},
		"a cell beyond the outer radius":   {pupil.Pupil{Size: 5, Outer: "39/100", Inner: "0"}, [][2]int{{2, 2}}},
		"a cell at the inner radius":       {pupil.Pupil{Size: 5, Outer: "41/100", Inner: "2/5"}, [][2]int{{2, 1}, {1, 2}, {3, 2}, {2, 3}}},
		"no cell between the radii":        {pupil.Pupil{Size: 5, Outer: "21/50", Inner: "41/100"}, nil},
		"the origin is covered":            {pupil.Pupil{Size: 5, Outer: "2/5", Inner: "0", Vanes: []pupil.Vane{{A: 0, B: -1, H: 1, Half: "1/" + nines600}}}, [][2]int{{1, 2}, {3, 2}, {2, 3}}},
		"cells at the half width are free": {pupil.Pupil{Size: 5, Outer: "3/5", Inner: "0", Vanes: []pupil.Vane{{A: 1, B: 0, H: 1, Half: "2/5"}}}, [][2]int{{1, 1}, {2, 1}, {3, 1}, {1, 2}, {1, 3}, {2, 3}, {3, 3}}},
		"cells below the half width":       {pupil.Pupil{Size: 5, Outer: "3/5", Inner: "0", Vanes: []pupil.Vane{{A: 1, B: 0, H: 1, Half: "401/1000"}}}, [][2]int{{1, 1}, {1, 2}, {1, 3}}},
		"an aslant vane":                   {pupil.Pupil{Size: 5, Outer: "3/5", Inner: "0", Vanes: []pupil.Vane{{A: 3, B: 4, H: 5, Half: "2/25"}}}, [][2]int{{1, 1}, {2, 1}, {3, 1}, {1, 2}, {3, 2}, {1, 3}, {2, 3}, {3, 3}}},
		"an aslant vane that is wider":     {pupil.Pupil{Size: 5, Outer: "3/5", Inner: "0", Vanes: []pupil.Vane{{A: 3, B: 4, H: 5, Half: "9/100"}}}, [][2]int{{1, 1}, {2, 1}, {3, 1}, {1, 2}, {3, 2}, {1, 3}, {2, 3}}},
		"a large disc":                     {pupil.Pupil{Size: 2, Outer: nines600, Inner: "1/" + nines600}, [][2]int{{0, 0}, {1, 0}, {0, 1}, {1, 1}}},
		"a large hole":                     {pupil.Pupil{Size: 2, Outer: nines600, Inner: "9"}, nil},
		"a wide vane":                      {pupil.Pupil{Size: 2, Outer: "1", Inner: "0", Vanes: []pupil.Vane{{A: -3, B: -4, H: 5, Half: nines600}}}, [][2]int{{0, 1}, {1, 1}}},
	} {
		t.Run(what, func(t *testing.T) { checkCells(t, row.p, row.cells) })
	}
}

func TestPupilsAtLimits(t *testing.T) {
	for _, size := range []int{2, 16} {
		p := full(size)
		for _, v := range directions()[:8] {
			v.Half = "1/9"
			p.Vanes = append(p.Vanes, v)
		}
		checkCells(t, p, cells(p))
	}
	p := full(16)
	for _, v := range directions()[len(directions())-6:] {
		v.Half = "1/99"
		p.Vanes = append(p.Vanes, v)
	}
	p.Vanes = append(p.Vanes, p.Vanes[:2]...)
	checkCells(t, p, cells(p))
}

func TestWrongPupils(t *testing.T) {
	for _, row := range wrongPupils() {
		want(t, "CheckPupil", pupil.CheckPupil(row.p), row.e)
		want(t, "Mask", both(pupil.Mask(row.p)), fails[[][]bool](row.e))
		want(t, "Cells", both(pupil.Cells(row.p)), fails[[][2]int](row.e))
		want(t, "Places", both(pupil.Places(row.p)), fails[[]api.Place](row.e))
	}
	for _, a := range wrong() {
		want(t, "a wrong radius", pupil.CheckPupil(pupil.Pupil{Size: 2, Outer: a, Inner: "0"}), api.ErrForm)
		want(t, "a wrong radius", pupil.CheckPupil(pupil.Pupil{Size: 2, Outer: "1", Inner: a}), api.ErrForm)
		want(t, "a wrong half width", pupil.CheckPupil(pupil.Pupil{Size: 2, Outer: "1", Inner: "0", Vanes: []pupil.Vane{{A: 1, H: 1, Half: a}}}), api.ErrForm)
	}
}
