package sensor_test

import (
	"math/big"
	"math/rand"
	"testing"

	"lenslet/api"
	"lenslet/sensor"
)

// P3.1

func TestCheckGeometry(t *testing.T) {
	for columns := -1; columns <= 10; columns++ {
		for rows := -1; rows <= 10; rows++ {
			for side := -1; side <= 10; side++ {
				wanted := api.ErrRange
				if columns >= 1 && columns <= 8 && rows >= 1 && rows <= 8 && side >= 2 && side <= 8 {
					wanted = api.OK
				}
				want(t, "CheckGeometry", sensor.CheckGeometry(sensor.Geometry{Columns: columns, Rows: rows, Side: side}), wanted)
			}
		}
	}
	for _, g := range wrongGeometries() {
		want(t, "CheckGeometry", sensor.CheckGeometry(g), api.ErrRange)
	}
}

func TestCheckFrame(t *testing.T) {
	random := rand.New(rand.NewSource(1))
	for range 100 {
		g := someGeometry(random)
		frame := someFrame(random, g)
		want(t, "CheckFrame", sensor.CheckFrame(g, frame), api.OK)
		frame[random.Intn(len(frame))][random.Intn(len(frame[0]))] = nan
		want(t, "CheckFrame with a NaN", sensor.CheckFrame(g, frame), api.ErrForm)
	}
	want(t, "CheckFrame", sensor.CheckFrame(example(), rows(4, least, -least, greatest, -greatest, 0, minus0, 1, -1)), api.OK)
	want(t, "CheckFrame", sensor.CheckFrame(largest(), even(largest(), 1)), api.OK)
	want(t, "columns are not rows", sensor.CheckFrame(example(), rows(2, 1, 2, 3, 4, 5, 6, 7, 8)), api.ErrShape)
	for _, row := range wrongFrames() {
		want(t, "CheckFrame", sensor.CheckFrame(example(), row.frame), row.e)
	}
	for _, g := range wrongGeometries() {
		want(t, "CheckFrame", sensor.CheckFrame(g, nil), api.ErrRange)
		want(t, "CheckFrame", sensor.CheckFrame(g, anyWrong()), api.ErrRange)
	}
}

// wrongCamera is a camera for the example with its first error.
type wrongCamera struct {
	c sensor.Camera
	e api.Errno
}

// wrongCameras are cameras of which each has the errors of its place in the order and of later ones.
func wrongCameras() []wrongCamera {
	even := rows(4, 1, 1, 1, 1, 1, 1, 1, 1)
	none := rows(4, 0, 1, 1, 1, 1, 1, 1, 1)
	many := make([][2]int, 257)
	var list []wrongCamera
	for _, row := range wrongFrames() {
		list = append(list,
			wrongCamera{sensor.Camera{Dark: row.frame, Flat: anyWrong(), Bad: many}, row.e},
			wrongCamera{sensor.Camera{Dark: even, Flat: row.frame, Bad: many}, row.e},
		)
	}
	list = append(list,
		wrongCamera{sensor.Camera{Dark: even, Flat: rows(4, 0, 1, 1, 1, 1, 1, 1, nan), Bad: many}, api.ErrForm},
		wrongCamera{sensor.Camera{Dark: even, Flat: none, Bad: many}, api.ErrZero},
		wrongCamera{sensor.Camera{Dark: even, Flat: rows(4, 1, 1, 1, 1, 1, 1, 1, minus0), Bad: [][2]int{{-1, 0}}}, api.ErrZero},
		wrongCamera{sensor.Camera{Dark: even, Flat: rows(4, 1, 1, 1, -least, 1, 1, 1, 1)}, api.ErrZero},
		wrongCamera{sensor.Camera{Dark: even, Flat: even, Bad: many}, api.ErrMany},
	)
	for _, row := range []struct {
		bad [][2]int
		e   api.Errno
	}{
		{[][2]int{{-1, 0}}, api.ErrRange},
		{[][2]int{{4, 0}}, api.ErrRange},
		{[][2]int{{0, -1}}, api.ErrRange},
		{[][2]int{{0, 2}}, api.ErrRange},
		{[][2]int{{far, 0}}, api.ErrRange},
		{[][2]int{{0, far}}, api.ErrRange},
		{[][2]int{{-far - 1, -far - 1}}, api.ErrRange},
		{[][2]int{{1, 1 << 62}}, api.ErrRange},
		{[][2]int{{1, 1}, {4, 0}}, api.ErrRange},
		{[][2]int{{1, 1}, {0, -1}}, api.ErrRange},
		{[][2]int{{0, 0}, {0, 0}}, api.ErrOrder},
		{[][2]int{{1, 0}, {0, 0}}, api.ErrOrder},
		{[][2]int{{0, 1}, {1, 0}}, api.ErrOrder},
		{[][2]int{{0, 1}, {3, 0}, {-1, 0}}, api.ErrOrder},
		{[][2]int{{0, 0}, {1, 0}, {1, 0}, {-1, 0}}, api.ErrOrder},
		{[][2]int{{0, 0}, {-1, 0}, {0, 0}}, api.ErrRange},
	} {
		list = append(list, wrongCamera{sensor.Camera{Dark: even, Flat: even, Bad: row.bad}, row.e})
	}
	return list
}

// many returns a camera of the largest geometry with bad pixels.
func many(n int) sensor.Camera {
	c := sensor.Camera{Dark: even(largest(), 0), Flat: even(largest(), 1)}
	for k := range n {
		c.Bad = append(c.Bad, [2]int{3 * k % 64, 3 * k / 64})
	}
	return c
}

func TestCheckCamera(t *testing.T) {
	for _, row := range wrongCameras() {
		want(t, "CheckCamera", sensor.CheckCamera(example(), row.c), row.e)
	}
	for _, g := range wrongGeometries() {
		want(t, "CheckCamera", sensor.CheckCamera(g, sensor.Camera{}), api.ErrRange)
		want(t, "CheckCamera", sensor.CheckCamera(g, sensor.Camera{Dark: anyWrong(), Flat: anyWrong(), Bad: make([][2]int, 257)}), api.ErrRange)
	}
	want(t, "with the least flat", sensor.CheckCamera(example(), sensor.Camera{Dark: even(example(), -greatest), Flat: even(example(), least)}), api.OK)
	want(t, "with all pixels bad", sensor.CheckCamera(example(), allBad()), api.OK)
	want(t, "with 256 bad pixels", sensor.CheckCamera(largest(), many(256)), api.OK)
	want(t, "with 257 bad pixels", sensor.CheckCamera(largest(), many(257)), api.ErrMany)
	c := many(256)
	c.Bad[255] = [2]int{63, 63}
	want(t, "with the last pixel", sensor.CheckCamera(largest(), c), api.OK)
	c.Bad[255] = [2]int{64, 63}
	want(t, "beyond the last column", sensor.CheckCamera(largest(), c), api.ErrRange)
	c.Bad[255] = [2]int{63, 64}
	want(t, "beyond the last row", sensor.CheckCamera(largest(), c), api.ErrRange)
}

// allBad is a camera for the example without a good pixel.
func allBad() sensor.Camera {
	return sensor.Camera{Dark: even(example(), 0), Flat: even(example(), 1), Bad: [][2]int{{0, 0}, {1, 0}, {2, 0}, {3, 0}, {0, 1}, {1, 1}, {2, 1}, {3, 1}}}
}

// calibrated returns the calibrated frame, by its definition.
func calibrated(g sensor.Geometry, c sensor.Camera, frame [][]float32) result[[][]float32] {
	bad := map[[2]int]bool{}
	for _, p := range c.Bad {
		bad[p] = true
	}
	count := func(i, k int) *big.Rat {
		return over(minus(exactly(frame[k][i]), exactly(c.Dark[k][i])), exactly(c.Flat[k][i]))
	}
	var all [][]float32
	for k := range frame {
		var row []float32
		for i := range frame[k] {
			x := count(i, k)
			if bad[[2]int{i, k}] {
				sum, n := new(big.Rat), 0
				for _, q := range [][2]int{{i - 1, k}, {i + 1, k}, {i, k - 1}, {i, k + 1}} {
					if q[0] < i/g.Side*g.Side || q[0] >= (i/g.Side+1)*g.Side || q[1] < k/g.Side*g.Side || q[1] >= (k/g.Side+1)*g.Side || bad[q] {
						continue
					}
					sum, n = plus(sum, count(q[0], q[1])), n+1
				}
				x = over(sum, integer(max(n, 1)))
			}
			f, ok := nearest(x)
			if !ok {
				return fails[[][]float32](api.ErrLarge)
			}
			row = append(row, f)
		}
		all = append(all, row)
	}
	return is(all)
}

func TestCalibratedExamples(t *testing.T) {
	frame := rows(4, 3, 1, 5, 1, 1, 1, 9, 1)
	c := sensor.Camera{Dark: even(example(), 1), Flat: even(example(), 2)}
	want(t, "Calibrated", both(sensor.Calibrated(example(), c, frame)), is(rows(4, 1, 0, 2, 0, 0, 0, 4, 0)))
	c.Bad = [][2]int{{0, 0}}
	want(t, "Calibrated", both(sensor.Calibrated(example(), c, frame)), is(rows(4, 0, 0, 2, 0, 0, 0, 4, 0)))
	c.Bad = [][2]int{{2, 1}}
	want(t, "Calibrated", both(sensor.Calibrated(example(), c, frame)), is(rows(4, 1, 0, 2, 0, 0, 0, 1, 0)))
}

func TestCalibrated(t *testing.T) {
	random := rand.New(rand.NewSource(2))
	for range 300 {
		g := someGeometry(random)
		c := sensor.Camera{Dark: someFrame(random, g), Flat: positiveFrame(random, g)}
		for index := range g.Columns * g.Side * g.Rows * g.Side {
			if random.Intn(4) == 0 {
				c.Bad = append(c.Bad, [2]int{index % (g.Columns * g.Side), index / (g.Columns * g.Side)})
			}
		}
		frame := someFrame(random, g)
		if random.Intn(2) == 0 { // otherwise a float is often too large
			c.Flat = frameOf(g, func() float32 { return 0.25 + random.Float32() })
		}
		want(t, "Calibrated", both(sensor.Calibrated(g, c, frame)), calibrated(g, c, frame))
	}
	c := many(256)
	frame := someFrame(random, largest())
	want(t, "Calibrated, the largest frame", both(sensor.Calibrated(largest(), c, frame)), calibrated(largest(), c, frame))
}

func TestCalibratedEdges(t *testing.T) {
	g := example()
	c := sensor.Camera{Dark: even(g, 0), Flat: even(g, 1)}
	signs(t, "-0 and 0", rows(4, minus0, 1, 1, 1, 1, 1, 1, 1), sensor.Camera{Dark: even(g, minus0), Flat: even(g, 1)})
	signs(t, "a negative count that is nearest to 0", rows(4, -least, 1, 1, 1, 1, 1, 1, 1), sensor.Camera{Dark: even(g, 0), Flat: even(g, 3)})
	want(t, "without a good pixel", both(sensor.Calibrated(g, allBad(), even(g, 7))), is(even(g, 0)))
	c.Bad = [][2]int{{1, 0}, {0, 1}}
	want(t, "without a good neighbour", both(sensor.Calibrated(g, c, rows(4, 1, 2, 3, 4, 5, 6, 7, 8))), is(rows(4, 1, 3.5, 3, 4, 3.5, 6, 7, 8)))
	c.Bad = [][2]int{{1, 0}, {0, 1}, {1, 1}}
	want(t, "without a good neighbour", both(sensor.Calibrated(g, c, rows(4, 1, 2, 3, 4, 5, 6, 7, 8))), is(rows(4, 1, 1, 3, 4, 1, 0, 7, 8)))
	tall := sensor.Geometry{Columns: 1, Rows: 2, Side: 2}
	c = sensor.Camera{Dark: even(tall, 0), Flat: even(tall, 1), Bad: [][2]int{{0, 1}, {1, 2}}}
	want(t, "beside another subaperture", both(sensor.Calibrated(tall, c, rows(2, 1, 2, 3, 4, 5, 6, 7, 8))), is(rows(2, 1, 2, 2.5, 4, 5, 6.5, 7, 8)))
	three := single(3)
	c = sensor.Camera{Dark: even(three, 0), Flat: even(three, 1), Bad: [][2]int{{1, 1}}}
	want(t, "four neighbours", both(sensor.Calibrated(three, c, rows(3, 9, 1, 9, 2, 9, 4, 9, 5, 9))), is(rows(3, 9, 1, 9, 2, 3, 4, 9, 5, 9)))
	c.Flat = rows(3, 1, 3, 1, 1, 1, 1, 1, 7, 1)
	want(t, "a mean of true counts, not of floats", both(sensor.Calibrated(three, c, rows(3, 0, 1, 0, 0, 0, 0, 0, 1, 0))), calibrated(three, c, rows(3, 0, 1, 0, 0, 0, 0, 0, 1, 0)))
}

// signs reports a calibrated count at 0, 0 that is not 0, or -0.
func signs(t *testing.T, what string, frame [][]float32, c sensor.Camera) {
	t.Helper()
	got, e := sensor.Calibrated(example(), c, frame)
	want(t, what, e, api.OK)
	if got[0][0] != 0 || 1/got[0][0] < 0 {
		t.Errorf("%s: got %v, want 0", what, got[0][0])
	}
}

func TestCalibratedErrors(t *testing.T) {
	g := example()
	failed := func(e api.Errno) result[[][]float32] { return fails[[][]float32](e) }
	c := sensor.Camera{Dark: even(g, -greatest), Flat: even(g, 1)}
	want(t, "too large a float", both(sensor.Calibrated(g, c, even(g, greatest))), failed(api.ErrLarge))
	want(t, "too large a float", both(sensor.Calibrated(g, sensor.Camera{Dark: even(g, greatest), Flat: even(g, 1)}, even(g, -greatest))), failed(api.ErrLarge))
	c.Flat = even(g, 2)
	want(t, "the greatest float", both(sensor.Calibrated(g, c, even(g, greatest))), is(even(g, greatest)))
	c = sensor.Camera{Dark: even(g, 0), Flat: rows(4, 1, 1, 1, 1, 1, 1, 1, 0.5)}
	frame := rows(4, 1, 1, 1, 1, 1, 1, 1, greatest)
	want(t, "the last pixel", both(sensor.Calibrated(g, c, frame)), failed(api.ErrLarge))
	c.Bad = [][2]int{{3, 1}}
	want(t, "a bad pixel that would be too large", both(sensor.Calibrated(g, c, frame)), is(even(g, 1)))
	for _, row := range wrongCameras() {
		want(t, "Calibrated", both(sensor.Calibrated(g, row.c, anyWrong())), failed(row.e))
	}
	for _, row := range wrongFrames() {
		want(t, "Calibrated", both(sensor.Calibrated(g, allBad(), row.frame)), failed(row.e))
		want(t, "Calibrated", both(sensor.Calibrated(g, c, row.frame)), failed(row.e))
	}
	for _, g := range wrongGeometries() {
		want(t, "Calibrated", both(sensor.Calibrated(g, sensor.Camera{}, anyWrong())), failed(api.ErrRange))
	}
}

// averaged returns the mean of frames, by its definition.
func averaged(frames [][][]float32) [][]float32 {
	var all [][]float32
	for k, row := range frames[0] {
		var list []float32
		for i := range row {
			sum := new(big.Rat)
			for _, frame := range frames {
				sum = plus(sum, exactly(frame[k][i]))
			}
			f, _ := nearest(over(sum, integer(len(frames))))
			list = append(list, f)
		}
		all = append(all, list)
	}
	return all
}

func TestAveraged(t *testing.T) {
	random := rand.New(rand.NewSource(3))
	for range 100 {
		g := someGeometry(random)
		var frames [][][]float32
		for range 1 + random.Intn(5) {
			frames = append(frames, someFrame(random, g))
		}
		want(t, "Averaged", both(sensor.Averaged(g, frames)), is(averaged(frames)))
	}
	g := example()
	want(t, "Averaged", both(sensor.Averaged(g, [][][]float32{even(g, 1), even(g, 2)})), is(even(g, 1.5)))
	want(t, "a third", both(sensor.Averaged(g, [][][]float32{even(g, 1), even(g, 0), even(g, 0)})), is(even(g, 1.0/3)))
	want(t, "large on the way", both(sensor.Averaged(g, [][][]float32{even(g, greatest), even(g, greatest)})), is(even(g, greatest)))
	want(t, "a sum that is small", both(sensor.Averaged(g, [][][]float32{even(g, greatest), even(g, least), even(g, -greatest)})), is(even(g, 0)))
	got, _ := sensor.Averaged(g, [][][]float32{even(g, minus0), even(g, -least), even(g, 0)})
	want(t, "no -0", 1/got[0][0] > 0, true)
	var most [][][]float32
	for k := range 256 {
		most = append(most, even(g, float32(k)))
	}
	want(t, "256 frames", both(sensor.Averaged(g, most)), is(even(g, 127.5)))
	want(t, "257 frames", both(sensor.Averaged(g, append(most, anyWrong()))), fails[[][]float32](api.ErrMany))
}

func TestAveragedErrors(t *testing.T) {
	g := example()
	failed := func(e api.Errno) result[[][]float32] { return fails[[][]float32](e) }
	want(t, "no frames", both(sensor.Averaged(g, nil)), failed(api.ErrEmpty))
	want(t, "many wrong frames", both(sensor.Averaged(g, make([][][]float32, 257))), failed(api.ErrMany))
	for _, row := range wrongFrames() {
		want(t, "Averaged", both(sensor.Averaged(g, [][][]float32{row.frame})), failed(row.e))
		want(t, "Averaged", both(sensor.Averaged(g, [][][]float32{even(g, 1), row.frame, nil, {{nan}, {nan}}})), failed(row.e))
	}
	for _, g := range wrongGeometries() {
		want(t, "Averaged", both(sensor.Averaged(g, nil)), failed(api.ErrRange))
		want(t, "Averaged", both(sensor.Averaged(g, make([][][]float32, 257))), failed(api.ErrRange))
	}
}
