package tests

import (
	"math"
	"math/big"
	"testing"

	"loop.example/g03229/impl"
)

func TestConstantsOfLattices(t *testing.T) {
	wantInt(t, "MaxStep", impl.MaxStep, 12)
}

func TestIsLatticeAndAreaOf(t *testing.T) {
	for a := -3; a <= 16; a++ {
		for b := -3; b <= 16; b++ {
			l := latticeOf(a, b)
			valid := a > 0 && a < 13 && b > -1 && b < 13
			area := 0
			if valid {
				area = a*a + b*b
			}
			wantBool(t, latticeName(l), impl.IsLattice(l), valid)
			wantInt(t, "the area of "+latticeName(l), impl.AreaOf(l), area)
		}
	}
}

func TestAreaOfExamples(t *testing.T) {
	wantInt(t, "the least area", impl.AreaOf(latticeOf(1, 0)), 1)
	wantInt(t, "1, 1", impl.AreaOf(latticeOf(1, 1)), 2)
	wantInt(t, "2, 1", impl.AreaOf(latticeOf(2, 1)), 5)
	wantInt(t, "3, 4", impl.AreaOf(latticeOf(3, 4)), 25)
	wantInt(t, "1, 12", impl.AreaOf(latticeOf(1, 12)), 145)
	wantInt(t, "12, 0", impl.AreaOf(latticeOf(12, 0)), 144)
	wantInt(t, "the greatest area", impl.AreaOf(latticeOf(12, 12)), 288)
}

func TestNoLattice(t *testing.T) {
	for _, l := range badLattices() {
		what := latticeName(l)
		wantBool(t, what, impl.IsLattice(l), false)
		wantInt(t, "AreaOf of "+what, impl.AreaOf(l), 0)
		wantInt(t, "PeriodOf of "+what, impl.PeriodOf(l), 0)
		wantInts(t, "SpotRanks of "+what, impl.SpotRanks(l))
		for _, n := range []int{math.MinInt, -1, 0, 1, 4, math.MaxInt} {
			wantBool(t, "HasPoint of "+what, impl.HasPoint(l, n, 0), false)
			wantBool(t, "HasPoint of "+what, impl.HasPoint(l, 0, n), false)
			wantInt(t, "NameOf of "+what, impl.NameOf(l, n, 0), -1)
			wantInt(t, "NameOf of "+what, impl.NameOf(l, 0, n), -1)
			wantNoPoint(t, what, l, n)
			wantInt(t, "NearOf of "+what, impl.NearOf(l, n), -1)
			wantInt(t, "TurnName of "+what, impl.TurnName(l, n), -1)
			plate, ok := impl.SpotPlate(l, n, 3, 3)
			wantRefused(t, "SpotPlate of "+what, plate, ok)
		}
		matrix, ok := impl.SpotMatrix(l)
		wantNoMatrix(t, "SpotMatrix of "+what, matrix, ok)
		wantNoTurnedLattice(t, l)
	}
}

func TestHasPointExamples(t *testing.T) {
	l := latticeOf(2, 1)
	for _, p := range [][2]int{{0, 0}, {2, 1}, {-1, 2}, {1, 3}, {3, -1}, {5, 0}, {0, -5}, {-2, -1}, {4, 2}, {-6, 2}} {
		wantBool(t, "a point of 2, 1", impl.HasPoint(l, p[0], p[1]), true)
	}
	for _, p := range [][2]int{{1, 0}, {0, 1}, {1, 2}, {2, -1}, {-2, 1}, {1, 1}, {4, 0}, {6, 0}, {0, 3}} {
		wantBool(t, "no point of 2, 1", impl.HasPoint(l, p[0], p[1]), false)
	}
	wantBool(t, "a step of 3, 0", impl.HasPoint(latticeOf(3, 0), -3, 6), true)
	wantBool(t, "less than a step of 3, 0", impl.HasPoint(latticeOf(3, 0), -3, 5), false)
}

// TestHasPoint makes all points around 0, 0 by their formula.
func TestHasPoint(t *testing.T) {
	const side = 40
	for _, l := range eachLattice() {
		points := map[[2]int]bool{}
		latticePoints(l, reachFor(l, side), func(x, y int) { points[[2]int{x, y}] = true })
		for y := -side; y <= side; y++ {
			for x := -side; x <= side; x++ {
				wantBool(t, pointName(x, y)+" in "+latticeName(l), impl.HasPoint(l, x, y), points[[2]int{x, y}])
			}
		}
	}
}

// isInLatticeOfBigNumbers is isInLattice for all ints.
func isInLatticeOfBigNumbers(l impl.Lattice, x, y int) bool {
	a, b, across, down := big.NewInt(int64(l.A)), big.NewInt(int64(l.B)), big.NewInt(int64(x)), big.NewInt(int64(y))
	area := big.NewInt(int64(l.A*l.A + l.B*l.B))
	i, j := new(big.Int).Mul(across, a), new(big.Int).Mul(down, a)
	i.Add(i, new(big.Int).Mul(down, b))
	j.Sub(j, new(big.Int).Mul(across, b))
	return i.Mod(i, area).Sign() == 0 && j.Mod(j, area).Sign() == 0
}

func TestHasPointAtExtremePlaces(t *testing.T) {
	for _, l := range eachLattice() {
		area, _, _ := shapeOf(l)
		last := math.MaxInt - math.MaxInt%area
		wantBool(t, "the last multiple in "+latticeName(l), impl.HasPoint(l, last, -last), true)
		wantBool(t, "next to it in "+latticeName(l), impl.HasPoint(l, last-1, last), area == 1)
		for _, x := range extremes {
			for _, y := range extremes {
				want := isInLatticeOfBigNumbers(l, x, y)
				wantBool(t, pointName(x, y)+" in "+latticeName(l), impl.HasPoint(l, x, y), want)
			}
		}
	}
}

func TestPeriodOfExamples(t *testing.T) {
	wantInt(t, "1, 0", impl.PeriodOf(latticeOf(1, 0)), 1)
	wantInt(t, "1, 1", impl.PeriodOf(latticeOf(1, 1)), 2)
	wantInt(t, "2, 1", impl.PeriodOf(latticeOf(2, 1)), 5)
	wantInt(t, "4, 2", impl.PeriodOf(latticeOf(4, 2)), 10)
	wantInt(t, "12, 0", impl.PeriodOf(latticeOf(12, 0)), 12)
	wantInt(t, "12, 12", impl.PeriodOf(latticeOf(12, 12)), 24)
	wantInt(t, "12, 11", impl.PeriodOf(latticeOf(12, 11)), 265)
	wantInt(t, "1, 12", impl.PeriodOf(latticeOf(1, 12)), 145)
}

func TestPeriodOf(t *testing.T) {
	for _, l := range eachLattice() {
		k := 1
		for !isInLattice(l, k, 0) {
			k++
		}
		wantInt(t, "the period of "+latticeName(l), impl.PeriodOf(l), k)
	}
}

func wantNoTurnedLattice(t *testing.T, l impl.Lattice) {
	t.Helper()
	turned, ok := impl.TurnedLattice(l)
	if ok || turned != latticeOf(0, 0) {
		t.Errorf("%s turned: got %v, %v, want the zero value and false", latticeName(l), turned, ok)
	}
}

func TestTurnedLattice(t *testing.T) {
	for _, l := range eachLattice() {
		if l.B == 0 {
			wantNoTurnedLattice(t, l)
			continue
		}
		turned, ok := impl.TurnedLattice(l)
		if !ok || turned != latticeOf(l.B, l.A) {
			t.Errorf("%s turned: got %v, %v", latticeName(l), turned, ok)
		}
		again, ok := impl.TurnedLattice(turned)
		if !ok || again != l {
			t.Errorf("%s turned twice: got %v, %v", latticeName(l), again, ok)
		}
	}
}

// TestTurnedLatticeOfOneValidOrder gives lattices of which only the exchanged one would be valid.
func TestTurnedLatticeOfOneValidOrder(t *testing.T) {
	for b := 1; b <= 12; b++ {
		wantNoTurnedLattice(t, latticeOf(0, b))
		wantNoTurnedLattice(t, latticeOf(b, 0))
	}
}
