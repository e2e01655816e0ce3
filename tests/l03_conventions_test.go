package tests

import (
	"slices"
	"testing"

	"loop.example/g03229/impl"
)

// screener is a function of chapter 4 that returns a list, with the other arguments fixed; q is the plate of p.
type screener struct {
	name string
	make func(m impl.Matrix, p, q impl.Picture) []int
}

func screeners() []screener {
	return []screener{
		{"ScreenLevel 0", func(m impl.Matrix, p, q impl.Picture) []int { return firstInk(impl.ScreenLevel(m, 0, 9, 9)) }},
		{"ScreenLevel", func(m impl.Matrix, p, q impl.Picture) []int {
			return firstInk(impl.ScreenLevel(m, len(m.Ranks)/2, p.Width, p.Height))
		}},
		{"ScreenPicture", func(m impl.Matrix, p, q impl.Picture) []int { return impl.ScreenPicture(m, p).Ink }},
		{"ScreenPicture of a plate", func(m impl.Matrix, p, q impl.Picture) []int { return impl.ScreenPicture(m, q).Ink }},
		{"LevelsFor", func(m impl.Matrix, p, q impl.Picture) []int { return impl.LevelsFor(m, p) }},
		{"TileSums of points", func(m impl.Matrix, p, q impl.Picture) []int { return impl.TileSums(p, 1, 1) }},
		{"TileSums of rows", func(m impl.Matrix, p, q impl.Picture) []int { return impl.TileSums(p, p.Width, 1) }},
		{"TileSums of the whole", func(m impl.Matrix, p, q impl.Picture) []int { return impl.TileSums(p, p.Width, p.Height) }},
		{"BlurPicture of points", func(m impl.Matrix, p, q impl.Picture) []int { return firstInk(impl.BlurPicture(q, 1, 1)) }},
		{"BlurPicture", func(m impl.Matrix, p, q impl.Picture) []int { return firstInk(impl.BlurPicture(q, 3, 2)) }},
		{"BlurPicture of large parts", func(m impl.Matrix, p, q impl.Picture) []int { return firstInk(impl.BlurPicture(q, 16, 16)) }},
		{"ScreenShifted by nothing", func(m impl.Matrix, p, q impl.Picture) []int { return impl.ScreenShifted(m, p, 0, 0).Ink }},
		{"ScreenShifted", func(m impl.Matrix, p, q impl.Picture) []int { return impl.ScreenShifted(m, p, 5, -3).Ink }},
		{"ErrorOf", func(m impl.Matrix, p, q impl.Picture) []int { return []int{impl.ErrorOf(p, q)} }},
		{"LevelOf", func(m impl.Matrix, p, q impl.Picture) []int { return []int{impl.LevelOf(m, 100)} }},
	}
}

func firstInk(p impl.Picture, _ bool) []int {
	return p.Ink
}

func TestArgumentsOfScreeningAreNotModified(t *testing.T) {
	for _, s := range append(goodMatrices(), badMatrices()...) {
		for _, r := range append(picturesAndPlates(), badPictures()...) {
			m, p, plate := roomyMatrix(s.matrix), roomyCopy(r.picture), plateOf(r.picture)
			q := roomyCopy(plate)
			for _, f := range screeners() {
				f.make(m, p, q)
			}
			what := s.name + " and " + r.name
			wantUntouched(t, "the matrix of "+what, asPicture(m), asPicture(s.matrix))
			wantUntouched(t, "the picture of "+what, p, r.picture)
			wantUntouched(t, "the plate of "+what, q, plate)
		}
	}
}

// TestBlurPictureOfAPartOfALargerList gives a plate whose list lies in the middle of other points.
func TestBlurPictureOfAPartOfALargerList(t *testing.T) {
	list := []int{7, 7, 1, 0, 0, 1, 1, 0, 7, 7, 7, 7, 7, 7, 7, 7, 7, 7, 7, 7}
	before := slices.Clone(list)
	p := pictureOf(2, 3, list[2:8]...)
	for width := 1; width <= 16; width++ {
		for height := 1; height <= 16; height++ {
			q, ok := impl.BlurPicture(p, width, height)
			wantPictureOk(t, "blurred by "+sizeName(width, height), q, ok, blurredByCopies(pictureOf(2, 3, 1, 0, 0, 1, 1, 0), width, height))
			wantInts(t, "the whole list", list, before...)
		}
	}
}

func TestResultsOfScreeningAreNewMemory(t *testing.T) {
	for _, s := range goodMatrices() {
		for _, r := range picturesAndPlates() {
			plate := plateOf(r.picture)
			for _, f := range screeners() {
				what := f.name + " of " + s.name + " and " + r.name
				m, p, q := roomyMatrix(s.matrix), roomyCopy(r.picture), roomyCopy(plate)
				result, again := f.make(m, p, q), f.make(m, p, q)
				want := slices.Clone(again)
				fillAll(result, 99)
				wantUntouched(t, what, asPicture(m), asPicture(s.matrix))
				wantUntouched(t, what, p, r.picture)
				wantUntouched(t, what, q, plate)
				fillAll(m.Ranks, 98)
				fillAll(p.Ink, 97)
				fillAll(q.Ink, 96)
				wantInts(t, what+": a second result", again, want...)
			}
		}
	}
}

func TestResultsOfScreeningDependOnArgumentsOnly(t *testing.T) {
	for _, f := range screeners() {
		m, p, q := mixedMatrix(5, 4), noisePicture(6, 7, 255), noisePicture(6, 7, 1)
		before := f.make(m, p, q)
		for _, s := range append(goodMatrices(), badMatrices()...) {
			f.make(s.matrix, noisePicture(3, 4, 255), noisePicture(3, 4, 1))
		}
		for _, r := range append(picturesAndPlates(), badPictures()...) {
			f.make(mixedMatrix(2, 2), r.picture, r.picture)
		}
		wantInts(t, f.name+" later", f.make(m, p, q), before...)
	}
}

// TestNoPanicWithScreening calls every function with numbers, matrices and pictures that fit together badly; a panic would end the test.
func TestNoPanicWithScreening(t *testing.T) {
	for _, a := range extremes {
		for _, b := range extremes {
			for _, length := range []int{0, 1, 2, 4, 257} {
				numbers := countedMatrix(length, 1).Ranks
				callAllOfScreening(matrixOf(a, b, numbers...), noisePicture(2, 2, 255), a, b)
				callAllOfScreening(mixedMatrix(2, 2), pictureOf(a, b, numbers...), a, b)
				callAllOfScreening(matrixOf(a, b, numbers...), pictureOf(b, a, numbers...), a, b)
			}
			callAllOfScreening(mixedMatrix(3, 2), noisePicture(3, 4, 1), a, b)
			callAllOfScreening(mixedMatrix(1, 256), noisePicture(64, 16, 255), a, b)
			callAllOfScreening(matrixOf(1, 2, a, b), pictureOf(1, 2, b, a), a, b)
		}
	}
}

func callAllOfScreening(m impl.Matrix, p impl.Picture, a, b int) {
	plate := pictureOf(2, 2, 0, 1, 1, 0)
	impl.LevelOf(m, a)
	impl.ScreenLevel(m, a, b, a)
	impl.ScreenLevel(m, 1, a, b)
	impl.ScreenPicture(m, p)
	impl.LevelsFor(m, p)
	impl.TileSums(p, a, b)
	impl.BlurPicture(p, a, b)
	impl.BlurPicture(plate, a, b)
	impl.ErrorOf(p, plate)
	impl.ErrorOf(plate, p)
	impl.ErrorOf(p, p)
	impl.ScreenShifted(m, p, a, b)
}
