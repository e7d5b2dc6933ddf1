package sensor_test

import (
	"math/rand"
	"reflect"
	"testing"

	"lenslet/api"
	"lenslet/sensor"
)

// P1 of DOC.md: each function has a result for all arguments, and together with an error the other
// results are their zero values.

// zeroBeside reports a result beside an error that is not its zero value.
func zeroBeside[T any](t *testing.T, what string, r result[T]) {
	t.Helper()
	if r.Error != api.OK && !reflect.ValueOf(r.Value).IsZero() {
		t.Errorf("%s: %v beside the error %v", what, r.Value, r.Error)
	}
}

// oddFrames are frames of any form.
func oddFrames() [][][]float32 {
	random := rand.New(rand.NewSource(61))
	list := [][][]float32{
		nil, {}, {nil}, {{}, nil}, anyWrong(), rows(2, 1, 2, 3, 4), rows(2, -1, 0, 0, 1), rows(2, 0, 0, 0, 0),
		rows(4, 1, 2, 3, 4, 5, 6, 7, 8), rows(4, greatest, least, -greatest, 1, 1, 1, 1, 1), even(largest(), 1), even(largest(), 0),
		someFrame(random, example()), positiveFrame(random, example()), someFrame(random, single(8)),
	}
	for _, row := range wrongFrames() {
		list = append(list, row.frame)
	}
	return list
}

func TestTotalFrames(t *testing.T) {
	frames := oddFrames()
	for _, g := range append(wrongGeometries(), example(), single(2), single(8), largest()) {
		e := sensor.CheckGeometry(g)
		for _, frame := range frames {
			wrong := sensor.CheckFrame(g, frame)
			want(t, "the error of a geometry", e == api.OK || wrong == e, true)
			flux, centroids := both(sensor.Flux(g, frame)), both(sensor.Centroids(g, frame))
			want(t, "Flux", flux.Error, wrong)
			zeroBeside(t, "Flux", flux)
			zeroBeside(t, "Centroids", centroids)
			zeroBeside(t, "Averaged", both(sensor.Averaged(g, [][][]float32{frame, even(example(), greatest)})))
			for _, a := range []api.Rat{"", "-1", "0", "2", "1/" + nines600, nines600, digits601} {
				zeroBeside(t, "Thresholded", both(sensor.Thresholded(g, frame, a)))
				for _, lenslet := range []int{-far - 1, -1, 0, 1, 64, far} {
					zeroBeside(t, "Uncertain", both(sensor.Uncertain(g, frame, lenslet, a)))
				}
				zeroBeside(t, "Spots", both(sensor.Spots(g, [][2]api.Rat{{a, "0"}, {"1/2", a}}, a)))
			}
			for _, other := range frames {
				c := sensor.Camera{Dark: frame, Flat: other, Bad: [][2]int{{0, 0}, {1, 1}}}
				sensor.CheckCamera(g, c)
				zeroBeside(t, "Calibrated", both(sensor.Calibrated(g, c, other)))
				zeroBeside(t, "Correlated", both(sensor.Correlated(g, frame, other, 1)))
			}
			zeroBeside(t, "Correlated", both(sensor.Correlated(g, frame, frame, far)))
			zeroBeside(t, "Correlated", both(sensor.Correlated(g, frame, frame, -far-1)))
		}
	}
}

func TestTotalFields(t *testing.T) {
	var fields [][][]complex64
	var phases [][][]int
	for _, n := range []int{0, 1, 2, 3, 4, 8, 9} {
		for _, width := range []int{0, 1, 2, 4, 8} {
			for _, c := range []complex64{0, 1, greatest, complex(nan, 0), complex(1, infinity)} {
				field, phase := make([][]complex64, n), make([][]int, n)
				for row := range n {
					for range width {
						field[row], phase[row] = append(field[row], c), append(phase[row], -far-1)
					}
				}
				fields, phases = append(fields, field), append(phases, phase)
			}
		}
	}
	for k, field := range fields {
		zeroBeside(t, "Field", both(sensor.Field(phases[k])))
		zeroBeside(t, "Images", both(sensor.Images(phases[k])))
		transform := both(sensor.Transform(field))
		zeroBeside(t, "Transform", transform)
		if transform.Error == api.OK {
			want(t, "CheckTransform", sensor.CheckTransform(field, transform.Value), api.OK)
		}
		for j := 0; j < len(fields); j += 7 {
			sensor.CheckTransform(field, fields[j])
		}
	}
	numbers := []api.Rat{"", "0", "1", nines600, "-" + nines600, digits601}
	for k := range 400 {
		var all [4][][]api.Rat
		for q := range all {
			all[q] = square([]int{2, 2, 2, 4, 3}[(k+q*k/7)%5], func(row, column int) api.Rat { return numbers[(k*(row+3)+column*q)%len(numbers)] })
		}
		zeroBeside(t, "Signals", both(sensor.Signals(all)))
	}
}

func TestTotalSlopes(t *testing.T) {
	lists := [][][2]api.Rat{nil, {{}}, {{"0", "0"}}, {{nines600, "-" + nines600}}, {{"1", "2"}, {"3", digits601}}, make([][2]api.Rat, 64), make([][2]api.Rat, 65)}
	for _, centroids := range lists {
		for _, reference := range lists {
			zeroBeside(t, "Slopes", both(sensor.Slopes(centroids, reference)))
		}
	}
}

// TestArgumentsAreKept changes results and looks whether arguments or other results change.
func TestArgumentsAreKept(t *testing.T) {
	g := example()
	frame := func() [][]float32 { return rows(4, 1, 3, 0, 0, 0, 0, 2, 2) }
	used := frame()
	c := sensor.Camera{Dark: even(g, 0), Flat: even(g, 1), Bad: [][2]int{{1, 1}}}
	got, _ := sensor.Calibrated(g, c, used)
	got[0][0] = 9
	_ = append(got[0], 9)
	want(t, "another row", got[1][0], float32(0))
	averaged, _ := sensor.Averaged(g, [][][]float32{used})
	want(t, "Averaged", averaged, frame())
	averaged[1][2] = 9
	template := rows(2, 1, 0, 0, 0)
	_, _ = sensor.Correlated(g, used, template, 1)
	_, _ = sensor.Thresholded(g, used, "1")
	_, _ = sensor.Uncertain(g, used, 0, "1")
	want(t, "frame", used, frame())
	want(t, "template", template, rows(2, 1, 0, 0, 0))
	want(t, "dark", c.Dark, even(g, 0))
	want(t, "flat", c.Flat, even(g, 1))
	want(t, "bad pixels", c.Bad, [][2]int{{1, 1}})
	phases := [][]int{{0, 5}, {-2, 3}}
	field, _ := sensor.Field(phases)
	transform, _ := sensor.Transform(field)
	transform[0][0] = 9
	want(t, "field", field, [][]complex64{{1, 1i}, {-1, -1i}})
	again, _ := sensor.Transform(field)
	want(t, "another transform", again[0][0], complex64(0))
	images, _ := sensor.Images(phases)
	images[0][0][0] = "9"
	other, _ := sensor.Images(phases)
	want(t, "other images", other[0][0][0] != "9", true)
	want(t, "phases", phases, [][]int{{0, 5}, {-2, 3}})
	places := [][2]api.Rat{{"0", "0"}, {"1/4", "-1/2"}}
	_, _ = sensor.Spots(g, places, "4")
	slopes, _ := sensor.Slopes(places, places)
	slopes[2] = "9"
	want(t, "places", places, [][2]api.Rat{{"0", "0"}, {"1/4", "-1/2"}})
}
