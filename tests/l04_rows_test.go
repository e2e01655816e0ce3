package tests

import (
	"math"
	"testing"

	"loop.example/g03229/impl"
)

// dotsByRounding puts a dot wherever the nearest number of dots for all ink up to there grows.
func dotsByRounding(line []int) []int {
	var dots []int
	sum, before := 0, 0
	for _, ink := range line {
		sum += ink
		count := (2*sum + 255) / 510
		dots = append(dots, count-before)
		before = count
	}
	return dots
}

func TestRowDotsExamples(t *testing.T) {
	wantInts(t, "three points", impl.RowDots([]int{100, 100, 100}), 0, 1, 0)
	wantInts(t, "no ink", impl.RowDots([]int{0}), 0)
	wantInts(t, "127", impl.RowDots([]int{127}), 0)
	wantInts(t, "128", impl.RowDots([]int{128}), 1)
	wantInts(t, "full", impl.RowDots([]int{255, 255, 255}), 1, 1, 1)
	wantInts(t, "half", impl.RowDots([]int{128, 127, 128, 127, 127}), 1, 0, 1, 0, 0)
	wantInts(t, "a plate", impl.RowDots([]int{1, 0, 1, 1}), 0, 0, 0, 0)
	wantInts(t, "a quarter", impl.RowDots([]int{64, 64, 64, 64, 64, 64, 64, 64}), 0, 1, 0, 0, 0, 1, 0, 0)
}

func TestRowDots(t *testing.T) {
	for width := 1; width <= 64; width++ {
		for _, most := range []int{255, 200, 100, 10, 1} {
			line := noisePicture(width, 1, most).Ink
			what := "a line of " + number(width)
			got := impl.RowDots(line)
			wantInts(t, what, got, dotsByRounding(line)...)
			plate, _, ok := impl.DiffusePicture(impl.PlainKernel(), pictureOf(width, 1, line...), false)
			wantPictureOk(t, what, plate, ok, pictureOf(width, 1, got...))
		}
		for ink := 0; ink <= 255; ink++ {
			flat, _ := impl.FlatPicture(width, 1, ink)
			wantInts(t, "a line of "+number(width)+" with "+number(ink), impl.RowDots(flat.Ink), dotsByRounding(flat.Ink)...)
		}
	}
}

func TestRowDotsOfNoPicture(t *testing.T) {
	wantInts(t, "nil", impl.RowDots(nil))
	wantInts(t, "an empty line", impl.RowDots([]int{}))
	for _, length := range []int{65, 66, 128, 1024, 1025, 100000} {
		wantInts(t, "a line of "+number(length), impl.RowDots(make([]int, length)))
	}
	for _, amount := range append([]int{-3, 257}, extremes...) {
		if amount >= 0 && amount <= 255 {
			continue
		}
		wantInts(t, "the amount "+number(amount), impl.RowDots([]int{amount}))
		wantInts(t, "the first amount "+number(amount), impl.RowDots([]int{amount, 0, 0}))
		wantInts(t, "the last amount "+number(amount), impl.RowDots([]int{255, 0, amount}))
	}
}

func wantMean(t *testing.T, what string, p impl.Picture, wantSum, wantPoints int) {
	t.Helper()
	sum, points := impl.MeanOf(p)
	wantInt(t, "the first number of the mean of "+what, sum, wantSum)
	wantInt(t, "the second number of the mean of "+what, points, wantPoints)
}

func TestMeanOfExamples(t *testing.T) {
	wantMean(t, "two points", pictureOf(2, 1, 2, 4), 3, 1)
	wantMean(t, "a point", pictureOf(1, 1, 77), 77, 1)
	wantMean(t, "a point without ink", pictureOf(1, 1, 0), 0, 1)
	wantMean(t, "four points without ink", pictureOf(2, 2, 0, 0, 0, 0), 0, 1)
	wantMean(t, "one of four", pictureOf(2, 2, 0, 1, 0, 0), 1, 4)
	wantMean(t, "two of four", pictureOf(2, 2, 0, 1, 1, 0), 1, 2)
	wantMean(t, "three of four", pictureOf(4, 1, 1, 1, 0, 1), 3, 4)
	wantMean(t, "four of four", pictureOf(1, 4, 1, 1, 1, 1), 1, 1)
	wantMean(t, "18 in twelve", pictureOf(4, 3, 0, 0, 0, 0, 0, 0, 0, 0, 0, 0, 0, 18), 3, 2)
	wantMean(t, "a prime", pictureOf(3, 2, 0, 0, 0, 0, 0, 251), 251, 6)
	full, _ := impl.FlatPicture(32, 32, 255)
	wantMean(t, "the most ink", full, 255, 1)
	full.Ink[1000] = 254
	wantMean(t, "nearly the most ink", full, 261119, 1024)
}

// TestMeanOf looks for the greatest common divisor from above.
func TestMeanOf(t *testing.T) {
	for _, r := range diffusionPictures() {
		sum, points := impl.SumInk(r.picture), len(r.picture.Ink)
		divisor := points
		for sum%divisor != 0 || points%divisor != 0 {
			divisor--
		}
		wantMean(t, r.name, r.picture, sum/divisor, points/divisor)
	}
}

// TestMeanOfChangedPictures is the part of promise P1 that tells of means.
func TestMeanOfChangedPictures(t *testing.T) {
	for _, r := range diffusionPictures() {
		sum, points := impl.MeanOf(r.picture)
		wantMean(t, "the turned picture "+r.name, impl.TurnPicture(r.picture), sum, points)
		wantMean(t, "the mirrored picture "+r.name, impl.MirrorPicture(r.picture), sum, points)
		twice, ok := impl.TilePicture(r.picture, 2*r.picture.Width, r.picture.Height)
		if ok {
			wantMean(t, "the picture twice: "+r.name, twice, sum, points)
		}
	}
}

func TestMeanOfEachSum(t *testing.T) {
	for points := 1; points <= 64; points++ {
		for sum := 0; sum <= 255; sum++ {
			p := pictureOf(points, 1, make([]int, points)...)
			p.Ink[points/2] = sum
			a, b := impl.MeanOf(p)
			wantInt(t, "the mean is that of the sum", a*points, b*sum)
			for divisor := 2; divisor <= b; divisor++ {
				wantBool(t, "the mean is in lowest terms", a%divisor != 0 || b%divisor != 0, true)
			}
			wantBool(t, "no mean has a second number below 1", b >= 1, true)
		}
	}
}

func TestMeanOfNoPicture(t *testing.T) {
	for _, r := range badPictures() {
		wantMean(t, r.name, r.picture, 0, 0)
	}
	for _, amount := range []int{math.MinInt, -1, 256, math.MaxInt} {
		wantMean(t, "the amount "+number(amount), pictureOf(2, 1, 0, amount), 0, 0)
	}
}
