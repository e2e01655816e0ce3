package tests

import (
	"math"
	"slices"
	"strconv"
	"testing"

	"loop.example/g03229/impl"
)

type namedMatrix struct {
	name   string
	matrix impl.Matrix
}

func matrixOf(width, height int, ranks ...int) impl.Matrix {
	return impl.Matrix{Width: width, Height: height, Ranks: ranks}
}

// countedMatrix has the ranks in the order of the cells.
func countedMatrix(width, height int) impl.Matrix {
	m := matrixOf(width, height)
	for i := range width * height {
		m.Ranks = append(m.Ranks, i)
	}
	return m
}

// mixedMatrix has the ranks in an order that follows no pattern of the rows.
func mixedMatrix(width, height int) impl.Matrix {
	m := countedMatrix(width, height)
	state := uint32(width*1000 + height)
	for i := len(m.Ranks) - 1; i > 0; i-- {
		state = state*1664525 + 1013904223
		k := int(state>>8) % (i + 1)
		m.Ranks[i], m.Ranks[k] = m.Ranks[k], m.Ranks[i]
	}
	return m
}

// goodMatrices holds matrices of every kind of size; the sides of some of them are too long for a picture.
func goodMatrices() []namedMatrix {
	return []namedMatrix{
		{"one cell", matrixOf(1, 1, 0)},
		{"a row", matrixOf(3, 1, 2, 0, 1)},
		{"a column", matrixOf(1, 3, 2, 0, 1)},
		{"a small matrix", matrixOf(3, 2, 4, 0, 5, 3, 1, 2)},
		{"a square in order", countedMatrix(4, 4)},
		{"an uneven matrix", mixedMatrix(5, 7)},
		{"the longest row that can be doubled", mixedMatrix(64, 1)},
		{"the largest square that can be doubled", mixedMatrix(8, 8)},
		{"a row that is too long for a picture", mixedMatrix(65, 1)},
		{"a column that is too long for a picture", mixedMatrix(1, 65)},
		{"two long rows", mixedMatrix(128, 2)},
		{"the longest row", mixedMatrix(256, 1)},
		{"the longest column", mixedMatrix(1, 256)},
		{"the square of MaxCells", mixedMatrix(16, 16)},
		{"the widest one that is a picture", mixedMatrix(64, 4)},
		{"the highest one that is a picture", mixedMatrix(4, 64)},
		{"nearly MaxCells", mixedMatrix(15, 17)},
	}
}

// badMatrices holds values of type Matrix that are no matrices, each for one reason.
func badMatrices() []namedMatrix {
	return []namedMatrix{
		{"the zero value", impl.Matrix{}},
		{"a width of 0", matrixOf(0, 1)},
		{"a height of 0", matrixOf(1, 0)},
		{"a negative width", matrixOf(-1, 1)},
		{"negative sides with a positive product", matrixOf(-2, -2, 0, 1, 2, 3)},
		{"one cell more than MaxCells", countedMatrix(257, 1)},
		{"one cell more than MaxCells in a column", countedMatrix(1, 257)},
		{"more than MaxCells in a rectangle", countedMatrix(16, 17)},
		{"a product that wraps to 0", matrixOf(1<<32, 1<<32)},
		{"a product that wraps to 0 the other way", matrixOf(math.MinInt, 2)},
		{"a product that wraps to 1", matrixOf(math.MaxInt, math.MaxInt, 0)},
		{"a huge width", matrixOf(math.MaxInt, 1, 0)},
		{"a huge height", matrixOf(1, math.MaxInt, 0)},
		{"no list", matrixOf(1, 1)},
		{"a list that is too short", matrixOf(2, 2, 0, 1, 2)},
		{"a list that is too long", matrixOf(2, 2, 0, 1, 2, 3, 4)},
		{"a list that is too long by a rank that is there", matrixOf(2, 2, 0, 1, 2, 3, 0)},
		{"a rank that occurs twice", matrixOf(2, 2, 0, 1, 1, 3)},
		{"two ranks that occur twice", matrixOf(2, 2, 0, 0, 3, 3)},
		{"the last rank twice", matrixOf(3, 1, 2, 1, 2)},
		{"a negative rank", matrixOf(2, 1, 0, -1)},
		{"a rank of n", matrixOf(2, 1, 2, 0)},
		{"ranks that begin at 1", matrixOf(3, 1, 1, 2, 3)},
		{"the least int as a rank", matrixOf(1, 2, math.MinInt, 0)},
		{"the greatest int as a rank", matrixOf(1, 2, 0, math.MaxInt)},
		{"a rank that is too large for MaxCells", matrixOf(1, 1, 256)},
	}
}

// isSizeOfMatrix says in other words than the program what a size is.
func isSizeOfMatrix(width, height int) bool {
	return min(width, height) > 0 && max(width, height) < 257 && width*height < 257
}

// areEachOnce says in other words than the program that the ranks are those from 0 on.
func areEachOnce(ranks []int) bool {
	sorted := slices.Sorted(slices.Values(ranks))
	for i, rank := range sorted {
		if i != rank {
			return false
		}
	}
	return true
}

func wantMatrix(t *testing.T, what string, got, want impl.Matrix) {
	t.Helper()
	if got.Width != want.Width || got.Height != want.Height || !slices.Equal(got.Ranks, want.Ranks) {
		t.Errorf("%s: got %v, want %v", what, got, want)
	}
}

func wantMatrixOk(t *testing.T, what string, got impl.Matrix, ok bool, want impl.Matrix) {
	t.Helper()
	if !ok {
		t.Errorf("%s: got false, want true", what)
	}
	wantMatrix(t, what, got, want)
}

// wantNoMatrix asks for the zero value beside a false.
func wantNoMatrix(t *testing.T, what string, got impl.Matrix, ok bool) {
	t.Helper()
	wantBool(t, what, ok, false)
	wantMatrix(t, what, got, impl.Matrix{})
}

// asPicture lets the helpers for pictures and their memory serve for matrices, too.
func asPicture(m impl.Matrix) impl.Picture {
	return impl.Picture{Width: m.Width, Height: m.Height, Ink: m.Ranks}
}

func roomyMatrix(m impl.Matrix) impl.Matrix {
	room := roomyCopy(asPicture(m))
	return impl.Matrix{Width: room.Width, Height: room.Height, Ranks: room.Ink}
}

func number(n int) string {
	return strconv.Itoa(n)
}
