package tests

import (
	"testing"

	"loop.example/g03229/impl"
)

func TestSpiralMatrixExamples(t *testing.T) {
	m, ok := impl.SpiralMatrix(1)
	wantMatrixOk(t, "one cell", m, ok, matrixOf(1, 1, 0))
	m, ok = impl.SpiralMatrix(2)
	wantMatrixOk(t, "sides of 2", m, ok, matrixOf(2, 2, 0, 1, 3, 2))
	m, ok = impl.SpiralMatrix(3)
	wantMatrixOk(t, "sides of 3", m, ok, matrixOf(3, 3, 0, 1, 2, 7, 8, 3, 6, 5, 4))
	m, ok = impl.SpiralMatrix(4)
	wantMatrixOk(t, "sides of 4", m, ok, matrixOf(4, 4, 0, 1, 2, 3, 11, 12, 13, 4, 10, 15, 14, 5, 9, 8, 7, 6))
	m, ok = impl.SpiralMatrix(5)
	wantMatrixOk(t, "sides of 5", m, ok, matrixOf(5, 5,
		0, 1, 2, 3, 4, 15, 16, 17, 18, 5, 14, 23, 24, 19, 6, 13, 22, 21, 20, 7, 12, 11, 10, 9, 8))
}

// spiralByRings goes around ring after ring, from the outside to the inside.
func spiralByRings(side int) impl.Matrix {
	m := matrixOf(side, side, make([]int, side*side)...)
	rank := 0
	put := func(x, y int) {
		m.Ranks[y*side+x] = rank
		rank++
	}
	for low, high := 0, side-1; low <= high; low, high = low+1, high-1 {
		for x := low; x <= high; x++ {
			put(x, low)
		}
		for y := low + 1; y <= high; y++ {
			put(high, y)
		}
		for x := high - 1; x >= low; x-- {
			put(x, high)
		}
		for y := high - 1; y > low; y-- {
			put(low, y)
		}
	}
	return m
}

func TestSpiralMatrix(t *testing.T) {
	for side := 1; side <= 16; side++ {
		m, ok := impl.SpiralMatrix(side)
		wantMatrixOk(t, "a side of "+number(side), m, ok, spiralByRings(side))
		wantBool(t, "a matrix with a side of "+number(side), impl.IsMatrix(m), true)
		wantBool(t, "each rank once with a side of "+number(side), areEachOnce(m.Ranks), true)
	}
}

func TestSpiralMatrixOfNoSide(t *testing.T) {
	for _, side := range append([]int{-16, -3, 17, 18, 32}, extremes...) {
		if side >= 1 && side <= 16 {
			continue
		}
		m, ok := impl.SpiralMatrix(side)
		wantNoMatrix(t, "a side of "+number(side), m, ok)
	}
}
