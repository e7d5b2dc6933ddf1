package sensor_test

import (
	"math/big"
	"math/rand"
	"testing"

	"lenslet/api"
	"lenslet/sensor"
)

// P3.6

func TestCentroidOfASpotIsItsPlace(t *testing.T) {
	random := rand.New(rand.NewSource(51))
	for range 200 {
		g := sensor.Geometry{Columns: 1 + random.Intn(3), Rows: 1 + random.Intn(3), Side: 2 + random.Intn(7)}
		coordinate := func() api.Rat { // in parts of 1/1024, so that the shares have few bits
			return rat(minus(big.NewRat(int64(random.Intn((g.Side-1)*1024+1)), 1024), big.NewRat(int64(g.Side-1), 2)))
		}
		var places [][2]api.Rat
		var fluxes []api.Rat
		flux := rat(big.NewRat(int64(1+random.Intn(15)), 8))
		for range g.Columns * g.Rows {
			places = append(places, [2]api.Rat{coordinate(), coordinate()})
			fluxes = append(fluxes, flux)
		}
		frame, e := sensor.Spots(g, places, flux)
		want(t, "Spots", e, api.OK)
		want(t, "Centroids", both(sensor.Centroids(g, frame)), is(places))
		want(t, "Flux", both(sensor.Flux(g, frame)), is(fluxes))
	}
}

// whole returns a frame with small whole counts, not all of which are 0 behind any lenslet.
func whole(random *rand.Rand, g sensor.Geometry) [][]float32 {
	frame := frameOf(g, func() float32 { return float32(random.Intn(50)) })
	for k := 0; k < len(frame); k += g.Side {
		for i := 0; i < len(frame[k]); i += g.Side {
			frame[k][i]++
		}
	}
	return frame
}

func TestMultiplesKeepCentroids(t *testing.T) {
	random := rand.New(rand.NewSource(52))
	for range 100 {
		g := someGeometry(random)
		frame := whole(random, g)
		centroids := both(sensor.Centroids(g, frame))
		want(t, "Centroids", centroids.Error, api.OK)
		for _, factor := range []float32{2, 3, 0.125, 1000, 1 << 100, 1.0 / (1 << 60) / (1 << 60)} {
			multiple := frameOf(g, func() float32 { return 0 })
			for k, row := range frame {
				for i, count := range row {
					multiple[k][i] = count * factor
				}
			}
			want(t, "Centroids of a multiple", both(sensor.Centroids(g, multiple)), centroids)
		}
	}
}

func TestShiftedFramesMoveCentroids(t *testing.T) {
	random := rand.New(rand.NewSource(53))
	for range 200 {
		g := someGeometry(random)
		a, b := random.Intn(2*g.Side-1)-g.Side+1, random.Intn(2*g.Side-1)-g.Side+1
		frame, shifted := even(g, 0), even(g, 0)
		for k := range frame {
			for i := range frame[k] {
				column, row := i%g.Side+a, k%g.Side+b
				if column >= 0 && column < g.Side && row >= 0 && row < g.Side {
					count := float32(1 + random.Intn(50))
					frame[k][i], shifted[k+b][i+a] = count, count
				}
			}
		}
		before, e := sensor.Centroids(g, frame)
		want(t, "Centroids", e, api.OK)
		for k, place := range before {
			before[k] = [2]api.Rat{rat(plus(value(place[0]), integer(a))), rat(plus(value(place[1]), integer(b)))}
		}
		want(t, "Centroids of a shifted frame", both(sensor.Centroids(g, shifted)), is(before))
	}
}

func TestCentroidsWithinTheErrorAreInTheSpan(t *testing.T) {
	random := rand.New(rand.NewSource(54))
	for range 100 {
		g := sensor.Geometry{Columns: 2, Rows: 2, Side: 2 + random.Intn(7)}
		frame := whole(random, g)
		e := float32(random.Intn(64)) / 16
		for range 5 {
			other := frameOf(g, func() float32 { return 0 })
			for k, row := range frame {
				for i, count := range row {
					other[k][i] = max(0, count+e*float32(random.Intn(9)-4)/4)
				}
			}
			centroids, failed := sensor.Centroids(g, other)
			if failed != api.OK { // counts within the error that are all 0
				continue
			}
			for lenslet, place := range centroids {
				spans := both(sensor.Uncertain(g, frame, lenslet, rat(exactly(e))))
				if spans.Error == api.ErrZero {
					continue
				}
				want(t, "Uncertain", spans.Error, api.OK)
				for axis, span := range spans.Value {
					x := value(place[axis])
					want(t, "the centroid lies in the span", value(span.Low).Cmp(x) <= 0 && x.Cmp(value(span.High)) <= 0, true)
				}
			}
		}
	}
}

func TestASinglePixelIsFound(t *testing.T) {
	random := rand.New(rand.NewSource(55))
	for side := 2; side <= 8; side++ {
		for most := range 5 {
			g := single(side)
			i, k := random.Intn(side), random.Intn(side)
			template := even(g, 0)
			template[k][i] = 1 + random.Float32()
			for b := max(-most, -k); b <= min(most, side-1-k); b++ {
				for a := max(-most, -i); a <= min(most, side-1-i); a++ {
					frame := even(g, 0)
					frame[k+b][i+a] = template[k][i]
					want(t, "Correlated", both(sensor.Correlated(g, frame, template, most)), is([][2]int{{a, b}}))
				}
			}
		}
	}
}

func TestAPistonChangesNoImage(t *testing.T) {
	for _, n := range []int{2, 4} {
		none := both(sensor.Images(square(n, func(int, int) int { return 0 })))
		want(t, "Images", none.Error, api.OK)
		for _, phase := range []int{1, 2, 3, 4, -1, -7, far, -far - 1} {
			want(t, "Images", both(sensor.Images(square(n, func(int, int) int { return phase }))), none)
		}
	}
}

func TestTransformOfAPiston(t *testing.T) {
	for _, n := range []int{2, 4, 8} {
		field, e := sensor.Field(square(n, func(int, int) int { return 0 }))
		want(t, "Field", e, api.OK)
		transform := square(n, func(int, int) complex64 { return 0 })
		transform[0][0] = complex(float32(n*n), 0)
		want(t, "CheckTransform", sensor.CheckTransform(field, transform), api.OK)
		if n < 8 {
			want(t, "Transform", both(sensor.Transform(field)), is(transform))
		}
	}
}

func TestTransformOfASum(t *testing.T) {
	random := rand.New(rand.NewSource(56))
	for _, n := range []int{2, 4, 8} {
		for range 30 {
			part := func() float32 { return float32(random.Intn(2001) - 1000) }
			element := func(int, int) complex64 { return complex(part(), part()) }
			a, b := square(n, element), square(n, element)
			sum := square(n, func(row, column int) complex64 { return a[row][column] + b[row][column] })
			x, _ := sensor.Transform(a)
			y, _ := sensor.Transform(b)
			both := square(n, func(row, column int) complex64 { return x[row][column] + y[row][column] })
			z, e := sensor.Transform(sum)
			want(t, "Transform", e, api.OK)
			if n < 8 {
				want(t, "Transform of a sum", z, both)
				continue
			}
			for row := range n {
				for column := range n {
					distance := minus(exactly(real(z[row][column])), exactly(real(both[row][column])))
					tolerance := plus(toleranceOf(sum), plus(toleranceOf(a), toleranceOf(b)))
					want(t, "Transform of a sum", distance.Abs(distance).Cmp(tolerance) <= 0, true)
				}
			}
		}
	}
}
