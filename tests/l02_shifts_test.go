package tests

import (
	"testing"

	"loop.example/g03229/impl"
)

func TestReverseMatrix(t *testing.T) {
	wantMatrix(t, "one cell", impl.ReverseMatrix(matrixOf(1, 1, 0)), matrixOf(1, 1, 0))
	wantMatrix(t, "a row", impl.ReverseMatrix(matrixOf(3, 1, 2, 0, 1)), matrixOf(3, 1, 0, 2, 1))
	wantMatrix(t, "a small matrix", impl.ReverseMatrix(matrixOf(3, 2, 4, 0, 5, 3, 1, 2)), matrixOf(3, 2, 1, 5, 0, 2, 4, 3))
	for _, s := range goodMatrices() {
		m := s.matrix
		r := impl.ReverseMatrix(m)
		wantBool(t, "the reverse is a matrix: "+s.name, impl.IsMatrix(r), true)
		wantInt(t, "the width of the reverse: "+s.name, r.Width, m.Width)
		wantInt(t, "the height of the reverse: "+s.name, r.Height, m.Height)
		for i, rank := range m.Ranks {
			wantInt(t, "reversed "+s.name, r.Ranks[i]+rank, len(m.Ranks)-1)
		}
		wantMatrix(t, "reversed twice: "+s.name, impl.ReverseMatrix(r), m)
	}
}

func TestChangesOfNoMatrix(t *testing.T) {
	for _, s := range badMatrices() {
		wantMatrix(t, "ReverseMatrix of "+s.name, impl.ReverseMatrix(s.matrix), impl.Matrix{})
		wantMatrix(t, "ShiftMatrix of "+s.name, impl.ShiftMatrix(s.matrix, 0, 0), impl.Matrix{})
		wantMatrix(t, "ShiftMatrix by 1 of "+s.name, impl.ShiftMatrix(s.matrix, 1, -1), impl.Matrix{})
		m, ok := impl.DoubleMatrix(s.matrix)
		wantNoMatrix(t, "DoubleMatrix of "+s.name, m, ok)
	}
}

func TestShiftMatrixExamples(t *testing.T) {
	m := matrixOf(3, 2, 0, 1, 2, 3, 4, 5)
	wantMatrix(t, "not at all", impl.ShiftMatrix(m, 0, 0), m)
	wantMatrix(t, "to the right", impl.ShiftMatrix(m, 1, 0), matrixOf(3, 2, 2, 0, 1, 5, 3, 4))
	wantMatrix(t, "to the left", impl.ShiftMatrix(m, -1, 0), matrixOf(3, 2, 1, 2, 0, 4, 5, 3))
	wantMatrix(t, "down", impl.ShiftMatrix(m, 0, 1), matrixOf(3, 2, 3, 4, 5, 0, 1, 2))
	wantMatrix(t, "up", impl.ShiftMatrix(m, 0, -1), matrixOf(3, 2, 3, 4, 5, 0, 1, 2))
	wantMatrix(t, "by its sides", impl.ShiftMatrix(m, 3, -2), m)
	wantMatrix(t, "to the right and down", impl.ShiftMatrix(m, 1, 1), matrixOf(3, 2, 5, 3, 4, 2, 0, 1))
}

// wantShifted moves each rank to its new cell, one step after the other around the matrix.
func wantShifted(t *testing.T, name string, m impl.Matrix, dx, dy int) {
	t.Helper()
	want := matrixOf(m.Width, m.Height, make([]int, len(m.Ranks))...)
	for i, rank := range m.Ranks {
		x, y := i%m.Width+dx+1000*m.Width, i/m.Width+dy+1000*m.Height
		want.Ranks[y%m.Height*m.Width+x%m.Width] = rank
	}
	got := impl.ShiftMatrix(m, dx, dy)
	wantMatrix(t, name+" shifted by "+number(dx)+", "+number(dy), got, want)
	wantBool(t, name+" shifted is a matrix", impl.IsMatrix(got), true)
}

func TestShiftMatrix(t *testing.T) {
	shifts := []int{-1000, -999, -257, -16, -5, -1, 0, 1, 2, 7, 64, 255, 256, 999, 1000}
	for _, s := range goodMatrices() {
		for _, dx := range shifts {
			for _, dy := range shifts {
				wantShifted(t, s.name, s.matrix, dx, dy)
			}
		}
	}
}

func TestShiftMatrixByEachShift(t *testing.T) {
	m := mixedMatrix(5, 7)
	for d := -1002; d <= 1002; d++ {
		if d < -1000 || d > 1000 {
			wantMatrix(t, "across by "+number(d), impl.ShiftMatrix(m, d, 0), impl.Matrix{})
			wantMatrix(t, "down by "+number(d), impl.ShiftMatrix(m, 0, d), impl.Matrix{})
			continue
		}
		wantShifted(t, "across", m, d, 0)
		wantShifted(t, "down", m, 0, d)
		wantShifted(t, "both", m, d, -d)
	}
}

func TestShiftMatrixByNoShift(t *testing.T) {
	m := matrixOf(3, 2, 4, 0, 5, 3, 1, 2)
	for _, d := range append([]int{-1001, 1001}, extremes...) {
		if d >= -1000 && d <= 1000 {
			continue
		}
		for _, other := range []int{-1000, 0, 1000, d} {
			wantMatrix(t, "across by "+number(d), impl.ShiftMatrix(m, d, other), impl.Matrix{})
			wantMatrix(t, "down by "+number(d), impl.ShiftMatrix(m, other, d), impl.Matrix{})
		}
	}
}

func TestShiftsAgree(t *testing.T) {
	for _, s := range goodMatrices() {
		m := s.matrix
		shifted := impl.ShiftMatrix(m, 17, -9)
		wantMatrix(t, "shifted back: "+s.name, impl.ShiftMatrix(shifted, -17, 9), m)
		wantMatrix(t, "shifted twice: "+s.name, impl.ShiftMatrix(shifted, 3, 4), impl.ShiftMatrix(m, 20, -5))
		for y := range m.Height {
			for x := range m.Width {
				wantInt(t, "RankAt of the shifted one: "+s.name, impl.RankAt(shifted, x, y), impl.RankAt(m, x-17, y+9))
			}
		}
	}
}
