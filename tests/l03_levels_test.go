package tests

import (
	"testing"

	"loop.example/g03229/impl"
)

func TestLevelOfExamples(t *testing.T) {
	bayer, _ := impl.BayerMatrix(1)
	for _, c := range [][2]int{{0, 0}, {31, 0}, {32, 1}, {95, 1}, {96, 2}, {127, 2}, {128, 2}, {159, 2}, {160, 3}, {223, 3}, {224, 4}, {255, 4}} {
		wantInt(t, "four cells and "+number(c[0]), impl.LevelOf(bayer, c[0]), c[1])
	}
	for _, c := range [][2]int{{0, 0}, {127, 0}, {128, 1}, {255, 1}} {
		wantInt(t, "one cell and "+number(c[0]), impl.LevelOf(matrixOf(1, 1, 0), c[0]), c[1])
	}
	for _, c := range [][2]int{{0, 0}, {1, 1}, {127, 127}, {128, 129}, {254, 255}, {255, 256}} {
		wantInt(t, "256 cells and "+number(c[0]), impl.LevelOf(mixedMatrix(16, 16), c[0]), c[1])
	}
}

func TestLevelOf(t *testing.T) {
	for n := 1; n <= 256; n++ {
		row, column := mixedMatrix(n, 1), mixedMatrix(1, n)
		for ink := 0; ink <= 255; ink++ {
			what := number(n) + " cells and " + number(ink)
			want := levelByDistance(n, ink)
			wantInt(t, "a row of "+what, impl.LevelOf(row, ink), want)
			wantInt(t, "a column of "+what, impl.LevelOf(column, ink), want)
		}
		wantInt(t, "no ink", impl.LevelOf(row, 0), 0)
		wantInt(t, "full ink", impl.LevelOf(row, impl.Full), n)
	}
}

func TestLevelOfNoAmount(t *testing.T) {
	for _, s := range goodMatrices() {
		for _, ink := range append([]int{-2, 257, 1000}, extremes...) {
			if ink >= 0 && ink <= 255 {
				continue
			}
			wantInt(t, "LevelOf "+s.name+" and "+number(ink), impl.LevelOf(s.matrix, ink), -1)
		}
	}
}

func TestLevelOfNoMatrix(t *testing.T) {
	for _, s := range badMatrices() {
		for _, ink := range []int{-1, 0, 1, 128, 255, 256} {
			wantInt(t, "LevelOf "+s.name, impl.LevelOf(s.matrix, ink), -1)
		}
	}
}

func TestLevelsForExamples(t *testing.T) {
	bayer, _ := impl.BayerMatrix(1)
	wantInts(t, "a picture", impl.LevelsFor(bayer, pictureOf(3, 2, 0, 255, 128, 31, 32, 224)), 0, 4, 2, 0, 1, 4)
	wantInts(t, "a point", impl.LevelsFor(bayer, pictureOf(1, 1, 100)), 2)
	wantInts(t, "one cell", impl.LevelsFor(matrixOf(1, 1, 0), pictureOf(4, 1, 0, 127, 128, 255)), 0, 0, 1, 1)
	wantInts(t, "a plate as a picture", impl.LevelsFor(bayer, pictureOf(3, 1, 1, 0, 1)), 0, 0, 0)
	wantInts(t, "a plate as a picture with 256 cells", impl.LevelsFor(mixedMatrix(16, 16), pictureOf(3, 1, 1, 0, 1)), 1, 0, 1)
}

func TestLevelsFor(t *testing.T) {
	for _, s := range screenMatrices() {
		for _, r := range picturesAndPlates() {
			var want []int
			for _, ink := range r.picture.Ink {
				want = append(want, levelByDistance(len(s.matrix.Ranks), ink))
			}
			wantInts(t, "the levels of "+s.name+" for "+r.name, impl.LevelsFor(s.matrix, r.picture), want...)
		}
	}
}

func TestLevelsForWhatIsNotValid(t *testing.T) {
	for _, s := range badMatrices() {
		wantInts(t, "LevelsFor with "+s.name, impl.LevelsFor(s.matrix, pictureOf(2, 1, 0, 255)))
	}
	for _, r := range badPictures() {
		wantInts(t, "LevelsFor of "+r.name, impl.LevelsFor(matrixOf(2, 1, 0, 1), r.picture))
	}
	wantInts(t, "LevelsFor of zero values", impl.LevelsFor(impl.Matrix{}, impl.Picture{}))
}

func TestLevelsGrowWithTheInk(t *testing.T) {
	for _, s := range screenMatrices() {
		n := len(s.matrix.Ranks)
		for ink := range 255 {
			less, more := impl.LevelOf(s.matrix, ink), impl.LevelOf(s.matrix, ink+1)
			wantBool(t, "more ink has no lower level: "+s.name, less <= more, true)
			wantInt(t, "the negative of an amount: "+s.name, impl.LevelOf(s.matrix, 255-ink), n-less)
		}
	}
}
