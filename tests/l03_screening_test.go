package tests

import (
	"slices"
	"testing"

	"loop.example/g03229/impl"
)

func wantLevelScreened(t *testing.T, s namedMatrix, level, width, height int) {
	t.Helper()
	what := "level " + number(level) + " of " + s.name + ", " + sizeName(width, height)
	got, ok := impl.ScreenLevel(s.matrix, level, width, height)
	levels := slices.Repeat([]int{level}, width*height)
	wantPictureOk(t, what, got, ok, screenedByCells(s.matrix, width, height, levels))
}

func TestScreenLevelExamples(t *testing.T) {
	m := matrixOf(3, 2, 4, 0, 5, 3, 1, 2)
	p, ok := impl.ScreenLevel(m, 2, 3, 2)
	wantPictureOk(t, "the size of the matrix", p, ok, pictureOf(3, 2, 0, 1, 0, 0, 1, 0))
	p, ok = impl.ScreenLevel(m, 4, 5, 3)
	wantPictureOk(t, "sides that the matrix does not divide", p, ok, pictureOf(5, 3, 0, 1, 0, 0, 1, 1, 1, 1, 1, 1, 0, 1, 0, 0, 1))
	p, ok = impl.ScreenLevel(m, 1, 2, 1)
	wantPictureOk(t, "a matrix that is larger", p, ok, pictureOf(2, 1, 0, 1))
	p, ok = impl.ScreenLevel(m, 0, 2, 2)
	wantPictureOk(t, "level 0", p, ok, pictureOf(2, 2, 0, 0, 0, 0))
	p, ok = impl.ScreenLevel(m, 6, 2, 2)
	wantPictureOk(t, "level n", p, ok, pictureOf(2, 2, 1, 1, 1, 1))
	p, ok = impl.ScreenLevel(m, 7, 2, 2)
	wantRefused(t, "level n + 1", p, ok)
	p, ok = impl.ScreenLevel(m, -1, 2, 2)
	wantRefused(t, "level -1", p, ok)
	p, ok = impl.ScreenLevel(countedMatrix(256, 1), 2, 3, 1)
	wantPictureOk(t, "a matrix whose sides are none of a picture", p, ok, pictureOf(3, 1, 1, 1, 0))
	p, ok = impl.ScreenLevel(countedMatrix(1, 256), 2, 2, 3)
	wantPictureOk(t, "a matrix that is too high for a picture", p, ok, pictureOf(2, 3, 1, 1, 1, 1, 0, 0))
}

func TestScreenLevel(t *testing.T) {
	sizes := [][2]int{{1, 1}, {1, 64}, {64, 1}, {3, 5}, {17, 9}, {32, 32}, {64, 16}}
	for _, s := range screenMatrices() {
		n := len(s.matrix.Ranks)
		for _, size := range sizes {
			for _, level := range []int{0, 1, n / 3, n / 2, n - 1, n} {
				wantLevelScreened(t, s, level, size[0], size[1])
			}
		}
	}
}

func TestScreenLevelOfEachLevel(t *testing.T) {
	for _, s := range []namedMatrix{{"an uneven matrix", mixedMatrix(5, 7)}, {"the longest row", mixedMatrix(256, 1)}} {
		for level := range len(s.matrix.Ranks) + 1 {
			wantLevelScreened(t, s, level, 13, 11)
		}
	}
}

func TestScreenLevelOfEachSize(t *testing.T) {
	s := namedMatrix{"a small matrix", matrixOf(3, 2, 4, 0, 5, 3, 1, 2)}
	for width := -1; width <= 66; width++ {
		for height := -1; height <= 66; height++ {
			if isSizeOfPicture(width, height) {
				wantLevelScreened(t, s, 3, width, height)
				continue
			}
			p, ok := impl.ScreenLevel(s.matrix, 3, width, height)
			wantRefused(t, "ScreenLevel "+sizeName(width, height), p, ok)
		}
	}
}

func TestScreenLevelOfExtremeSizes(t *testing.T) {
	for _, width := range extremes {
		for _, height := range extremes {
			if isSizeOfPicture(width, height) {
				continue
			}
			p, ok := impl.ScreenLevel(mixedMatrix(2, 2), 2, width, height)
			wantRefused(t, "ScreenLevel "+sizeName(width, height), p, ok)
		}
	}
}

func TestScreenLevelOfNoLevel(t *testing.T) {
	for _, s := range goodMatrices() {
		n := len(s.matrix.Ranks)
		for _, level := range append([]int{-2, n + 1, n + 2, 257}, extremes...) {
			if level >= 0 && level <= n {
				continue
			}
			p, ok := impl.ScreenLevel(s.matrix, level, 4, 4)
			wantRefused(t, "level "+number(level)+" of "+s.name, p, ok)
		}
	}
}

func TestScreenLevelOfNoMatrix(t *testing.T) {
	for _, s := range badMatrices() {
		for _, level := range []int{-1, 0, 1, len(s.matrix.Ranks)} {
			p, ok := impl.ScreenLevel(s.matrix, level, 2, 2)
			wantRefused(t, "ScreenLevel of "+s.name, p, ok)
		}
	}
}

// TestScreenLevelAndCellsBelow compares with the levels of chapter 3, laid side by side.
func TestScreenLevelAndCellsBelow(t *testing.T) {
	for _, s := range screenMatrices() {
		if !isSizeOfPicture(s.matrix.Width, s.matrix.Height) {
			continue
		}
		for level := 0; level <= len(s.matrix.Ranks); level += 3 {
			got, ok := impl.ScreenLevel(s.matrix, level, 20, 30)
			want, _ := impl.TilePicture(impl.CellsBelow(s.matrix, level), 20, 30)
			wantPictureOk(t, "cells side by side: "+s.name, got, ok, want)
		}
	}
}

func TestScreenPictureExamples(t *testing.T) {
	m := matrixOf(2, 2, 0, 2, 3, 1)
	wantPicture(t, "a picture", impl.ScreenPicture(m, pictureOf(3, 2, 32, 160, 31, 255, 96, 223)), pictureOf(3, 2, 1, 1, 0, 1, 1, 0))
	wantPicture(t, "just too little ink", impl.ScreenPicture(m, pictureOf(2, 2, 31, 159, 223, 95)), pictureOf(2, 2, 0, 0, 0, 0))
	wantPicture(t, "just enough ink", impl.ScreenPicture(m, pictureOf(2, 2, 32, 160, 224, 96)), pictureOf(2, 2, 1, 1, 1, 1))
	wantPicture(t, "a point under a larger matrix", impl.ScreenPicture(m, pictureOf(1, 1, 32)), pictureOf(1, 1, 1))
	wantPicture(t, "one cell", impl.ScreenPicture(matrixOf(1, 1, 0), pictureOf(4, 1, 0, 127, 128, 255)), pictureOf(4, 1, 0, 0, 1, 1))
	wantPicture(t, "a plate as a picture", impl.ScreenPicture(m, pictureOf(2, 1, 1, 1)), pictureOf(2, 1, 0, 0))
	wantPicture(t, "a plate as a picture with 256 cells", impl.ScreenPicture(countedMatrix(256, 1), pictureOf(3, 1, 1, 1, 1)), pictureOf(3, 1, 1, 0, 0))
	wantPicture(t, "a matrix whose sides are none of a picture", impl.ScreenPicture(countedMatrix(1, 256), pictureOf(2, 2, 1, 0, 1, 2)), pictureOf(2, 2, 1, 0, 0, 1))
}

func TestScreenPicture(t *testing.T) {
	for _, s := range screenMatrices() {
		for _, r := range picturesAndPlates() {
			p := r.picture
			var levels []int
			for _, ink := range p.Ink {
				levels = append(levels, levelByDistance(len(s.matrix.Ranks), ink))
			}
			what := r.name + " screened with " + s.name
			got := impl.ScreenPicture(s.matrix, p)
			wantPicture(t, what, got, screenedByCells(s.matrix, p.Width, p.Height, levels))
			wantBool(t, what+" is a plate", impl.IsPlate(got), true)
		}
	}
}

func TestScreenPictureOfFlatPictures(t *testing.T) {
	for _, s := range screenMatrices() {
		for ink := 0; ink <= 255; ink += 15 {
			flat, _ := impl.FlatPicture(19, 18, ink)
			want, _ := impl.ScreenLevel(s.matrix, impl.LevelOf(s.matrix, ink), 19, 18)
			wantPicture(t, number(ink)+" screened with "+s.name, impl.ScreenPicture(s.matrix, flat), want)
		}
	}
}

func TestScreenPictureOfWhatIsNotValid(t *testing.T) {
	for _, s := range badMatrices() {
		wantPicture(t, "ScreenPicture with "+s.name, impl.ScreenPicture(s.matrix, pictureOf(2, 1, 0, 255)), impl.Picture{})
		wantPicture(t, "ScreenShifted with "+s.name, impl.ScreenShifted(s.matrix, pictureOf(2, 1, 0, 255), 0, 0), impl.Picture{})
	}
	for _, r := range badPictures() {
		wantPicture(t, "ScreenPicture of "+r.name, impl.ScreenPicture(matrixOf(2, 1, 0, 1), r.picture), impl.Picture{})
		wantPicture(t, "ScreenShifted of "+r.name, impl.ScreenShifted(matrixOf(2, 1, 0, 1), r.picture, 1, 0), impl.Picture{})
	}
	wantPicture(t, "ScreenPicture of zero values", impl.ScreenPicture(impl.Matrix{}, impl.Picture{}), impl.Picture{})
}

func TestScreenShiftedExamples(t *testing.T) {
	m := matrixOf(3, 2, 0, 1, 2, 3, 4, 5)
	p := pictureOf(3, 2, 127, 127, 127, 127, 127, 127)
	wantPicture(t, "not at all", impl.ScreenShifted(m, p, 0, 0), pictureOf(3, 2, 1, 1, 1, 0, 0, 0))
	m = matrixOf(3, 2, 0, 3, 4, 1, 5, 2)
	wantPicture(t, "not at all", impl.ScreenShifted(m, p, 0, 0), pictureOf(3, 2, 1, 0, 0, 1, 0, 1))
	wantPicture(t, "to the right", impl.ScreenShifted(m, p, 1, 0), pictureOf(3, 2, 0, 1, 0, 1, 1, 0))
	wantPicture(t, "to the left", impl.ScreenShifted(m, p, -1, 0), pictureOf(3, 2, 0, 0, 1, 0, 1, 1))
	wantPicture(t, "down", impl.ScreenShifted(m, p, 0, 1), pictureOf(3, 2, 1, 0, 1, 1, 0, 0))
	wantPicture(t, "the picture stays where it is", impl.ScreenShifted(m, pictureOf(3, 2, 0, 255, 0, 0, 0, 0), 1, 1), pictureOf(3, 2, 0, 1, 0, 0, 0, 0))
}

func TestScreenShifted(t *testing.T) {
	shifts := [][2]int{{-1000, -1000}, {1000, 1000}, {-1000, 1000}, {0, 0}, {1, 0}, {0, 1}, {-1, 0}, {0, -1}, {7, -13}, {-256, 255}}
	for _, s := range screenMatrices() {
		for _, r := range picturesAndPlates() {
			for _, d := range shifts {
				want := impl.ScreenPicture(impl.ShiftMatrix(s.matrix, d[0], d[1]), r.picture)
				got := impl.ScreenShifted(s.matrix, r.picture, d[0], d[1])
				wantPicture(t, r.name+" shifted "+pointName(d[0], d[1])+" with "+s.name, got, want)
				wantBool(t, "a plate", impl.IsPlate(got), true)
			}
		}
	}
}

// TestScreenShiftedByEachShift asks RankAt for the rank at each point.
func TestScreenShiftedByEachShift(t *testing.T) {
	m, p := mixedMatrix(5, 3), noisePicture(7, 4, 255)
	for d := -1002; d <= 1002; d++ {
		for _, shift := range [][2]int{{d, 0}, {0, d}, {d, d / 2}} {
			want := impl.Picture{}
			if d >= -1000 && d <= 1000 {
				want = pictureOf(7, 4)
				for i, ink := range p.Ink {
					rank := impl.RankAt(m, i%7-shift[0], i/7-shift[1])
					want.Ink = append(want.Ink, min(max(levelByDistance(15, ink)-rank, 0), 1))
				}
			}
			wantPicture(t, "shifted "+pointName(shift[0], shift[1]), impl.ScreenShifted(m, p, shift[0], shift[1]), want)
		}
	}
}

func TestScreenShiftedByNoShift(t *testing.T) {
	p := noisePicture(3, 3, 255)
	for _, d := range append([]int{-1001, 1001}, extremes...) {
		if d >= -1000 && d <= 1000 {
			continue
		}
		for _, other := range []int{-1000, 0, 1000, d} {
			wantPicture(t, "across by "+number(d), impl.ScreenShifted(mixedMatrix(2, 2), p, d, other), impl.Picture{})
			wantPicture(t, "down by "+number(d), impl.ScreenShifted(mixedMatrix(2, 2), p, other, d), impl.Picture{})
		}
	}
}

// TestTilesHaveTheDotsOfTheirLevel is the first half of promise P3.
func TestTilesHaveTheDotsOfTheirLevel(t *testing.T) {
	for _, s := range screenMatrices() {
		m := s.matrix
		if !isSizeOfPicture(m.Width, m.Height) {
			continue
		}
		width, height := 2*m.Width+1, 3*m.Height+2
		if !isSizeOfPicture(width, height) {
			width, height = m.Width, m.Height
		}
		for level := range len(m.Ranks) + 1 {
			plate, _ := impl.ScreenLevel(m, level, width, height)
			sums := impl.TileSums(plate, m.Width, m.Height)
			wantInt(t, "the tiles of "+s.name, len(sums), width/m.Width*(height/m.Height))
			for _, sum := range sums {
				wantInt(t, "the dots in a tile of "+s.name, sum, level)
			}
			for _, d := range [][2]int{{0, 0}, {1, 2}, {m.Width / 2, m.Height - 1}} {
				tile, fits := impl.CropPicture(plate, d[0], d[1], m.Width, m.Height)
				if fits {
					wantInt(t, "the dots in a part of "+s.name, impl.SumInk(tile), level)
				}
			}
		}
	}
}

// TestMoreInkKeepsTheDots is the second half of promise P3.
func TestMoreInkKeepsTheDots(t *testing.T) {
	for _, s := range screenMatrices() {
		m := s.matrix
		for level := range len(m.Ranks) {
			less, _ := impl.ScreenLevel(m, level, 21, 33)
			more, _ := impl.ScreenLevel(m, level+1, 21, 33)
			wantBool(t, "one level more of "+s.name, impl.CoversPicture(more, less), true)
		}
		for _, r := range picturesAndPlates() {
			p := r.picture
			added := noisePicture(p.Width, p.Height, 60)
			before := impl.ScreenPicture(m, p)
			for range 5 {
				p, _ = impl.AddPictures(p, added)
				after := impl.ScreenPicture(m, p)
				wantBool(t, "more ink on "+r.name+" with "+s.name, impl.CoversPicture(after, before), true)
				before = after
			}
		}
	}
}

// TestScreenedNegatives checks that the reverse of a matrix screens the negative with the opposite dots.
func TestScreenedNegatives(t *testing.T) {
	for _, s := range screenMatrices() {
		for _, r := range goodPictures() {
			plate := impl.ScreenPicture(s.matrix, r.picture)
			other := impl.ScreenPicture(impl.ReverseMatrix(s.matrix), impl.NegativePicture(r.picture))
			wantPicture(t, "the negative of "+r.name+" with "+s.name, other, impl.NegativePicture(plate))
		}
	}
}
