package tests

import (
	"math"
	"testing"

	"loop.example/g03229/impl"
)

func TestBayerMatrixExamples(t *testing.T) {
	m, ok := impl.BayerMatrix(0)
	wantMatrixOk(t, "k = 0", m, ok, matrixOf(1, 1, 0))
	m, ok = impl.BayerMatrix(1)
	wantMatrixOk(t, "k = 1", m, ok, matrixOf(2, 2, 0, 2, 3, 1))
	m, ok = impl.BayerMatrix(2)
	wantMatrixOk(t, "k = 2", m, ok, matrixOf(4, 4, 0, 8, 2, 10, 12, 4, 14, 6, 3, 11, 1, 9, 15, 7, 13, 5))
	m, ok = impl.BayerMatrix(3)
	wantMatrixOk(t, "k = 3", m, ok, matrixOf(8, 8,
		0, 32, 8, 40, 2, 34, 10, 42,
		48, 16, 56, 24, 50, 18, 58, 26,
		12, 44, 4, 36, 14, 46, 6, 38,
		60, 28, 52, 20, 62, 30, 54, 22,
		3, 35, 11, 43, 1, 33, 9, 41,
		51, 19, 59, 27, 49, 17, 57, 25,
		15, 47, 7, 39, 13, 45, 5, 37,
		63, 31, 55, 23, 61, 29, 53, 21))
}

func TestBayerMatrixOfEachK(t *testing.T) {
	sides := []int{1, 2, 4, 8, 16}
	for k, side := range sides {
		m, ok := impl.BayerMatrix(k)
		wantBool(t, "BayerMatrix of "+number(k), ok, true)
		wantBool(t, "a matrix for "+number(k), impl.IsMatrix(m), true)
		wantInt(t, "the width for "+number(k), m.Width, side)
		wantInt(t, "the height for "+number(k), m.Height, side)
		wantBool(t, "each rank once for "+number(k), len(m.Ranks) == side*side && areEachOnce(m.Ranks), true)
		for i, rank := range m.Ranks {
			x, y := i%side, i/side
			wantInt(t, "BayerMatrix of "+number(k)+" "+pointName(x, y), rank, bayerSum(k, x, y))
		}
	}
}

func TestBayerMatrixIsDoubled(t *testing.T) {
	for k := range 4 {
		less, _ := impl.BayerMatrix(k)
		m, ok := impl.DoubleMatrix(less)
		more, _ := impl.BayerMatrix(k + 1)
		wantMatrixOk(t, "the double of that for "+number(k), m, ok, more)
	}
	last, _ := impl.BayerMatrix(4)
	m, ok := impl.DoubleMatrix(last)
	wantNoMatrix(t, "the double of the last one", m, ok)
}

func TestBayerMatrixOfNoK(t *testing.T) {
	for _, k := range append([]int{-3, 5, 6, 7, 8, 16}, extremes...) {
		if k >= 0 && k <= 4 {
			continue
		}
		m, ok := impl.BayerMatrix(k)
		wantNoMatrix(t, "BayerMatrix of "+number(k), m, ok)
	}
}

// bayerSum is the sum of the document, digit by digit.
func bayerSum(k, x, y int) int {
	side := 1
	for range k {
		side *= 2
	}
	x, y = (x%side+side)%side, (y%side+side)%side
	sum, power := 0, 1
	for i := range k {
		a, b := digitOf(x, k-1-i), digitOf(y, k-1-i)
		differ := 0
		if a != b {
			differ = 1
		}
		sum += power * (2*differ + b)
		power *= 4
	}
	return sum
}

func digitOf(n, place int) int {
	for range place {
		n /= 2
	}
	return n % 2
}

func TestBayerRank(t *testing.T) {
	for k := 0; k <= 4; k++ {
		m, _ := impl.BayerMatrix(k)
		for y := -40; y <= 40; y++ {
			for x := -40; x <= 40; x++ {
				what := "BayerRank of " + number(k) + " " + pointName(x, y)
				got := impl.BayerRank(k, x, y)
				wantInt(t, what, got, bayerSum(k, x, y))
				wantInt(t, what+" as RankAt tells it", got, impl.RankAt(m, x, y))
			}
		}
	}
}

func TestBayerRankExamples(t *testing.T) {
	wantInt(t, "k = 0", impl.BayerRank(0, 5, -7), 0)
	wantInt(t, "k = 1, right upper", impl.BayerRank(1, 1, 0), 2)
	wantInt(t, "k = 1, left lower", impl.BayerRank(1, 0, 1), 3)
	wantInt(t, "k = 1, right lower", impl.BayerRank(1, 1, 1), 1)
	wantInt(t, "k = 2, one to the left", impl.BayerRank(2, -1, 0), 10)
	wantInt(t, "k = 2, one above", impl.BayerRank(2, 0, -1), 15)
	wantInt(t, "k = 4, the last cell", impl.BayerRank(4, 15, 15), 85)
	wantInt(t, "k = 4, left and above", impl.BayerRank(4, -1, -1), 85)
	wantInt(t, "k = 4, the largest rank", impl.BayerRank(4, 0, 15), 255)
}

func TestBayerRankAtExtremePlaces(t *testing.T) {
	for k := 0; k <= 4; k++ {
		m, _ := impl.BayerMatrix(k)
		for _, x := range extremes {
			for _, y := range extremes {
				what := "BayerRank of " + number(k) + " " + pointName(x, y)
				wantInt(t, what, impl.BayerRank(k, x, y), impl.RankAt(m, x, y))
			}
		}
		wantInt(t, "the least int", impl.BayerRank(k, math.MinInt, math.MinInt), 0)
		wantInt(t, "the greatest int", impl.BayerRank(k, math.MaxInt, math.MaxInt), bayerSum(k, -1, -1))
	}
}

func TestBayerRankOfNoK(t *testing.T) {
	for _, k := range append([]int{-3, 5, 6, 7, 8, 62}, extremes...) {
		if k >= 0 && k <= 4 {
			continue
		}
		for _, place := range []int{-1, 0, 1, math.MinInt, math.MaxInt} {
			wantInt(t, "BayerRank of "+number(k), impl.BayerRank(k, place, -place), -1)
		}
	}
}

func TestDoubleMatrixExamples(t *testing.T) {
	m, ok := impl.DoubleMatrix(matrixOf(1, 1, 0))
	wantMatrixOk(t, "one cell", m, ok, matrixOf(2, 2, 0, 2, 3, 1))
	m, ok = impl.DoubleMatrix(matrixOf(3, 1, 2, 0, 1))
	wantMatrixOk(t, "a row", m, ok, matrixOf(6, 2, 8, 0, 4, 10, 2, 6, 11, 3, 7, 9, 1, 5))
	m, ok = impl.DoubleMatrix(matrixOf(1, 2, 1, 0))
	wantMatrixOk(t, "a column", m, ok, matrixOf(2, 4, 4, 6, 0, 2, 7, 5, 3, 1))
}

// TestDoubleMatrix builds the double from the four quarters.
func TestDoubleMatrix(t *testing.T) {
	for _, s := range goodMatrices() {
		m := s.matrix
		got, ok := impl.DoubleMatrix(m)
		if 4*len(m.Ranks) > 256 {
			wantNoMatrix(t, "the double of "+s.name, got, ok)
			continue
		}
		want := matrixOf(2*m.Width, 2*m.Height)
		for _, pair := range [][2]int{{0, 2}, {3, 1}} {
			for start := 0; start < len(m.Ranks); start += m.Width {
				for _, more := range pair {
					for _, rank := range m.Ranks[start : start+m.Width] {
						want.Ranks = append(want.Ranks, 4*rank+more)
					}
				}
			}
		}
		wantMatrixOk(t, "the double of "+s.name, got, ok, want)
		wantBool(t, "the double is a matrix: "+s.name, impl.IsMatrix(got), true)
	}
}

func TestDoubleMatrixOfEachSize(t *testing.T) {
	for width := 1; width <= 256; width++ {
		for height := 1; width*height <= 256; height++ {
			what := "the double of one " + sizeName(width, height)
			m, ok := impl.DoubleMatrix(mixedMatrix(width, height))
			if width*height > 64 {
				wantNoMatrix(t, what, m, ok)
				continue
			}
			wantBool(t, what, ok && m.Width == 2*width && m.Height == 2*height && impl.IsMatrix(m), true)
		}
	}
}
