package tests

import (
	"testing"

	"loop.example/g03229/impl"
)

func TestCellsBelowExamples(t *testing.T) {
	m := matrixOf(3, 2, 4, 0, 5, 3, 1, 2)
	wantPicture(t, "level 0", impl.CellsBelow(m, 0), pictureOf(3, 2, 0, 0, 0, 0, 0, 0))
	wantPicture(t, "level 1", impl.CellsBelow(m, 1), pictureOf(3, 2, 0, 1, 0, 0, 0, 0))
	wantPicture(t, "level 3", impl.CellsBelow(m, 3), pictureOf(3, 2, 0, 1, 0, 0, 1, 1))
	wantPicture(t, "level n - 1", impl.CellsBelow(m, 5), pictureOf(3, 2, 1, 1, 0, 1, 1, 1))
	wantPicture(t, "level n", impl.CellsBelow(m, 6), pictureOf(3, 2, 1, 1, 1, 1, 1, 1))
	wantPicture(t, "level n + 1", impl.CellsBelow(m, 7), impl.Picture{})
	wantPicture(t, "level -1", impl.CellsBelow(m, -1), impl.Picture{})
	wantPicture(t, "one cell, level 0", impl.CellsBelow(matrixOf(1, 1, 0), 0), pictureOf(1, 1, 0))
	wantPicture(t, "one cell, level 1", impl.CellsBelow(matrixOf(1, 1, 0), 1), pictureOf(1, 1, 1))
}

// platesOf returns the plates of all levels, which are empty if the size is none of a picture.
func platesOf(m impl.Matrix) []impl.Picture {
	plates := make([]impl.Picture, len(m.Ranks)+1)
	if !isSizeOfPicture(m.Width, m.Height) {
		return plates
	}
	for level := range plates {
		plates[level] = pictureOf(m.Width, m.Height)
		for _, rank := range m.Ranks {
			plates[level].Ink = append(plates[level].Ink, min(max(level-rank, 0), 1))
		}
	}
	return plates
}

func TestCellsBelow(t *testing.T) {
	for _, s := range goodMatrices() {
		for level, plate := range platesOf(s.matrix) {
			what := "level " + number(level) + " of " + s.name
			got := impl.CellsBelow(s.matrix, level)
			wantPicture(t, what, got, plate)
			wantBool(t, what+" is a plate", impl.IsPlate(got), len(plate.Ink) > 0)
		}
	}
}

func TestCellsBelowOfSizes(t *testing.T) {
	for width := 1; width <= 256; width++ {
		for height := 1; width*height <= 256; height++ {
			what := "CellsBelow " + sizeName(width, height)
			n := width * height
			m := countedMatrix(width, height)
			none, all := impl.CellsBelow(m, 0), impl.CellsBelow(m, n)
			if max(width, height) > 64 {
				wantPicture(t, what, none, impl.Picture{})
				wantPicture(t, what, all, impl.Picture{})
				wantInt(t, "SpreadOf "+sizeName(width, height), impl.SpreadOf(m, n), 0)
				continue
			}
			wantInt(t, what+" without dots", impl.CountInk(none, 0), n)
			wantInt(t, what+" with dots only", impl.CountInk(all, 1), n)
			wantInt(t, "SpreadOf "+sizeName(width, height), impl.SpreadOf(m, n), min(n-1, 1))
		}
	}
}

func TestLevelsThatAreNone(t *testing.T) {
	for _, s := range goodMatrices() {
		n := len(s.matrix.Ranks)
		for _, level := range append([]int{-2, n + 1, n + 2, 257, 258}, extremes...) {
			if level >= 0 && level <= n {
				continue
			}
			what := "level " + number(level) + " of " + s.name
			wantPicture(t, what, impl.CellsBelow(s.matrix, level), impl.Picture{})
			wantInt(t, what, impl.SpreadOf(s.matrix, level), 0)
		}
	}
}

func TestLevelsOfNoMatrix(t *testing.T) {
	for _, s := range badMatrices() {
		for level := -1; level <= 5; level++ {
			wantPicture(t, "CellsBelow of "+s.name, impl.CellsBelow(s.matrix, level), impl.Picture{})
			wantInt(t, "SpreadOf of "+s.name, impl.SpreadOf(s.matrix, level), 0)
		}
		wantPicture(t, "CellsBelow of "+s.name, impl.CellsBelow(s.matrix, len(s.matrix.Ranks)), impl.Picture{})
	}
}

// TestLevelsAreNested is promise P2: a level has as many dots as it says, and a higher one keeps them.
func TestLevelsAreNested(t *testing.T) {
	matrices := goodMatrices()
	for k := 0; k <= 4; k++ {
		bayer, _ := impl.BayerMatrix(k)
		matrices = append(matrices, namedMatrix{"Bayer " + number(k), bayer})
	}
	for side := 1; side <= 16; side++ {
		spiral, _ := impl.SpiralMatrix(side)
		matrices = append(matrices, namedMatrix{"a spiral of " + number(side), spiral})
		matrices = append(matrices, namedMatrix{"a shifted spiral of " + number(side), impl.ShiftMatrix(spiral, 5, -3)})
	}
	for _, s := range matrices {
		n := len(s.matrix.Ranks)
		if !isSizeOfPicture(s.matrix.Width, s.matrix.Height) {
			continue
		}
		for level := range n {
			plate, more := impl.CellsBelow(s.matrix, level), impl.CellsBelow(s.matrix, level+1)
			wantInt(t, "the dots of "+s.name, impl.CountInk(plate, 1), level)
			wantBool(t, "one level more of "+s.name, impl.CoversPicture(more, plate), true)
			rest := impl.CellsBelow(impl.ReverseMatrix(s.matrix), n-level)
			wantPicture(t, "the reverse of "+s.name, impl.NegativePicture(rest), plate)
		}
	}
}

func TestSpreadOfExamples(t *testing.T) {
	bayer, _ := impl.BayerMatrix(2)
	for level, want := range []int{0, 0, 8, 4, 4, 2, 2, 2, 2, 1, 1, 1, 1, 1, 1, 1, 1} {
		wantInt(t, "Bayer at "+number(level), impl.SpreadOf(bayer, level), want)
	}
	wantInt(t, "one cell", impl.SpreadOf(matrixOf(1, 1, 0), 1), 0)
	wantInt(t, "two cells", impl.SpreadOf(matrixOf(2, 1, 1, 0), 2), 1)
	wantInt(t, "round a row", impl.SpreadOf(matrixOf(5, 1, 0, 2, 3, 4, 1), 2), 1)
	wantInt(t, "round a column", impl.SpreadOf(matrixOf(1, 5, 0, 2, 3, 4, 1), 2), 1)
	wantInt(t, "half round a row", impl.SpreadOf(matrixOf(4, 1, 0, 2, 1, 3), 2), 4)
	wantInt(t, "less than half round a row", impl.SpreadOf(matrixOf(5, 1, 0, 2, 3, 1, 4), 2), 4)
	wantInt(t, "across and down", impl.SpreadOf(matrixOf(4, 2, 0, 2, 3, 4, 5, 6, 1, 7), 2), 5)
	wantInt(t, "left and above", impl.SpreadOf(matrixOf(3, 3, 0, 2, 3, 4, 5, 6, 7, 8, 1), 2), 2)
}

// spreadByCopies measures from each dot to the copies of all others, in the matrix and in the eight around it.
func spreadByCopies(plate impl.Picture) int {
	spread := 0
	for i, a := range plate.Ink {
		for k, b := range plate.Ink {
			if a == 0 || b == 0 || i == k {
				continue
			}
			for copied := range 9 {
				dx := k%plate.Width - i%plate.Width + (copied%3-1)*plate.Width
				dy := k/plate.Width - i/plate.Width + (copied/3-1)*plate.Height
				if square := dx*dx + dy*dy; spread == 0 || square < spread {
					spread = square
				}
			}
		}
	}
	return spread
}

func TestSpreadOf(t *testing.T) {
	spiral, _ := impl.SpiralMatrix(6)
	bayer, _ := impl.BayerMatrix(3)
	for _, s := range append(goodMatrices(), namedMatrix{"a spiral", spiral}, namedMatrix{"Bayer", bayer}) {
		for level, plate := range platesOf(s.matrix) {
			if level > 20 && level%25 != 0 && level != len(s.matrix.Ranks) {
				continue
			}
			wantInt(t, "SpreadOf level "+number(level)+" of "+s.name, impl.SpreadOf(s.matrix, level), spreadByCopies(plate))
		}
	}
}

// TestSpreadOfEachPair puts two dots at each pair of cells.
func TestSpreadOfEachPair(t *testing.T) {
	for _, size := range [][2]int{{6, 1}, {1, 7}, {4, 3}, {5, 5}, {6, 4}} {
		width, height := size[0], size[1]
		for i := range width * height {
			for k := range i {
				m := countedMatrix(width, height)
				m.Ranks[0], m.Ranks[k] = m.Ranks[k], m.Ranks[0]
				one := indexOfRank(m, 1)
				m.Ranks[one], m.Ranks[i] = m.Ranks[i], m.Ranks[one]
				plate := pictureOf(width, height, make([]int, width*height)...)
				plate.Ink[i], plate.Ink[k] = 1, 1
				wantPicture(t, "two dots", impl.CellsBelow(m, 2), plate)
				wantInt(t, "two dots "+sizeName(width, height), impl.SpreadOf(m, 2), spreadByCopies(plate))
				wantInt(t, "one of two dots", impl.SpreadOf(m, 1), 0)
				wantInt(t, "none of two dots", impl.SpreadOf(m, 0), 0)
			}
		}
	}
}

func indexOfRank(m impl.Matrix, rank int) int {
	for i, r := range m.Ranks {
		if r == rank {
			return i
		}
	}
	return -1
}

func TestSpreadStaysWithShiftsAndFalls(t *testing.T) {
	m := mixedMatrix(6, 5)
	for level := 2; level < 30; level++ {
		spread := impl.SpreadOf(m, level)
		wantInt(t, "shifted", impl.SpreadOf(impl.ShiftMatrix(m, 4, -2), level), spread)
		wantBool(t, "one dot more is not further away", impl.SpreadOf(m, level+1) <= spread, true)
	}
}
