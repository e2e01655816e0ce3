package tests

import (
	"math"
	"testing"

	"loop.example/g03229/impl"
)

func TestConstantsOfMatrices(t *testing.T) {
	wantInt(t, "MaxCells", impl.MaxCells, 256)
}

func TestIsMatrixOfEachSize(t *testing.T) {
	for width := -2; width <= 258; width++ {
		for height := -2; height <= 258; height++ {
			area := width * height
			if min(width, height) < 0 || area > 600 {
				area = 5
			}
			what := "IsMatrix " + sizeName(width, height)
			m := countedMatrix(area, 1)
			m.Width, m.Height = width, height
			wantBool(t, what, impl.IsMatrix(m), isSizeOfMatrix(width, height))
			m.Ranks = append(m.Ranks, area)
			wantBool(t, what+" with a longer list", impl.IsMatrix(m), false)
			m.Ranks = m.Ranks[:max(area-1, 0)]
			wantBool(t, what+" with a shorter list", impl.IsMatrix(m), false)
		}
	}
}

func TestIsMatrixOfExtremeSizes(t *testing.T) {
	for _, width := range extremes {
		for _, height := range extremes {
			// The product may wrap around to the length of one of these lists.
			for _, length := range []int{0, 1, 2, 3, 4, 64, 128, 256} {
				m := matrixOf(width, height, countedMatrix(length, 1).Ranks...)
				want := isSizeOfMatrix(width, height) && width*height == length
				wantBool(t, "IsMatrix "+sizeName(width, height), impl.IsMatrix(m), want)
			}
		}
	}
}

func TestIsMatrixOfEachRank(t *testing.T) {
	ranks := []int{-3, -2, -1, 0, 1, 2, 3, 4, 5, 6, 7, 8, 254, 255, 256, 257}
	for _, rank := range append(ranks, extremes...) {
		for place := range 6 {
			m := countedMatrix(3, 2)
			m.Ranks[place] = rank
			wantBool(t, "IsMatrix with "+number(rank)+" at "+number(place), impl.IsMatrix(m), rank == place)
		}
	}
}

// TestIsMatrixOfEachList tries all lists of three numbers around the ranks.
func TestIsMatrixOfEachList(t *testing.T) {
	for a := -1; a <= 4; a++ {
		for b := -1; b <= 4; b++ {
			for c := -1; c <= 4; c++ {
				want := areEachOnce([]int{a, b, c})
				wantBool(t, "a row", impl.IsMatrix(matrixOf(3, 1, a, b, c)), want)
				wantBool(t, "a column", impl.IsMatrix(matrixOf(1, 3, a, b, c)), want)
			}
		}
	}
}

// TestIsMatrixWithMaxCells exchanges a single rank of the largest matrices.
func TestIsMatrixWithMaxCells(t *testing.T) {
	for _, place := range []int{0, 1, 100, 254, 255} {
		for _, rank := range []int{-1, 0, 1, 100, 254, 255, 256, 257} {
			m := countedMatrix(16, 16)
			m.Ranks[place] = rank
			wantBool(t, number(rank)+" at "+number(place), impl.IsMatrix(m), rank == place)
		}
	}
}

func TestIsMatrixOfSamples(t *testing.T) {
	for _, s := range goodMatrices() {
		wantBool(t, "IsMatrix of "+s.name, impl.IsMatrix(s.matrix), true)
	}
	for _, s := range badMatrices() {
		wantBool(t, "IsMatrix of "+s.name, impl.IsMatrix(s.matrix), false)
	}
}

func TestRankAt(t *testing.T) {
	for _, s := range goodMatrices() {
		m := s.matrix
		for i, rank := range m.Ranks {
			x, y := i%m.Width, i/m.Width
			for _, turns := range []int{-3, -1, 0, 1, 2, 1000} {
				what := "RankAt of " + s.name + " " + pointName(x, y)
				wantInt(t, what+", further across", impl.RankAt(m, x+turns*m.Width, y), rank)
				wantInt(t, what+", further down", impl.RankAt(m, x, y+turns*m.Height), rank)
				wantInt(t, what+", further both ways", impl.RankAt(m, x+turns*m.Width, y-turns*m.Height), rank)
			}
		}
	}
}

func TestRankAtLeftAndAbove(t *testing.T) {
	m := matrixOf(3, 2, 4, 0, 5, 3, 1, 2)
	wantInt(t, "one to the left", impl.RankAt(m, -1, 0), 5)
	wantInt(t, "two to the left", impl.RankAt(m, -2, 0), 0)
	wantInt(t, "a width to the left", impl.RankAt(m, -3, 0), 4)
	wantInt(t, "one above", impl.RankAt(m, 0, -1), 3)
	wantInt(t, "a height above", impl.RankAt(m, 0, -2), 4)
	wantInt(t, "left and above", impl.RankAt(m, -1, -1), 2)
	wantInt(t, "far left and above", impl.RankAt(m, -301, -201), 2)
}

func TestRankAtExtremePlaces(t *testing.T) {
	row, column := countedMatrix(7, 1), countedMatrix(1, 7)
	// 2^63 leaves 1 when it is divided by 7.
	rests := map[int]int{math.MaxInt: 0, math.MaxInt - 1: 6, math.MinInt: 6, math.MinInt + 1: 0, math.MinInt + 2: 1}
	for place, rest := range rests {
		wantInt(t, "across "+number(place), impl.RankAt(row, place, place), rest)
		wantInt(t, "down "+number(place), impl.RankAt(column, place, place), rest)
	}
	for _, place := range extremes {
		wantInt(t, "one cell "+number(place), impl.RankAt(matrixOf(1, 1, 0), place, -place), 0)
		// With a side of 256 the remainder has the last 8 bits, whatever the sign is.
		wantInt(t, "256 across "+number(place), impl.RankAt(countedMatrix(256, 1), place, 0), int(uint8(place)))
		wantInt(t, "256 down "+number(place), impl.RankAt(countedMatrix(1, 256), 0, place), int(uint8(place)))
	}
}

func TestRankAtOfNoMatrix(t *testing.T) {
	for _, s := range badMatrices() {
		for _, place := range []int{-1, 0, 1, math.MinInt, math.MaxInt} {
			wantInt(t, "RankAt of "+s.name, impl.RankAt(s.matrix, place, 0), -1)
			wantInt(t, "RankAt of "+s.name, impl.RankAt(s.matrix, 0, place), -1)
		}
	}
}

func TestRowMatrix(t *testing.T) {
	for width := -2; width <= 258; width++ {
		for height := -2; height <= 258; height++ {
			what := "RowMatrix " + sizeName(width, height)
			m, ok := impl.RowMatrix(width, height)
			if !isSizeOfMatrix(width, height) {
				wantNoMatrix(t, what, m, ok)
				continue
			}
			wantMatrixOk(t, what, m, ok, countedMatrix(width, height))
			wantBool(t, what+" is a matrix", impl.IsMatrix(m), true)
		}
	}
}

func TestRowMatrixOfExtremeSizes(t *testing.T) {
	for _, width := range extremes {
		for _, height := range extremes {
			if isSizeOfMatrix(width, height) {
				continue
			}
			m, ok := impl.RowMatrix(width, height)
			wantNoMatrix(t, "RowMatrix "+sizeName(width, height), m, ok)
		}
	}
}

func TestRowMatrixExamples(t *testing.T) {
	m, ok := impl.RowMatrix(1, 1)
	wantMatrixOk(t, "one cell", m, ok, matrixOf(1, 1, 0))
	m, ok = impl.RowMatrix(3, 2)
	wantMatrixOk(t, "two rows", m, ok, matrixOf(3, 2, 0, 1, 2, 3, 4, 5))
	m, ok = impl.RowMatrix(256, 1)
	wantMatrixOk(t, "MaxCells in a row", m, ok, countedMatrix(256, 1))
	m, ok = impl.RowMatrix(257, 1)
	wantNoMatrix(t, "one cell more", m, ok)
	m, ok = impl.RowMatrix(1, 257)
	wantNoMatrix(t, "one cell more in a column", m, ok)
}
