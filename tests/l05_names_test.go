package tests

import (
	"math"
	"testing"

	"loop.example/g03229/impl"
)

func TestNameOfExamples(t *testing.T) {
	l := latticeOf(2, 1)
	for x, name := range []int{0, 1, 2, 3, 4, 0, 1} {
		wantInt(t, "the row 0 of 2, 1", impl.NameOf(l, x, 0), name)
	}
	for x, name := range []int{3, 4, 0, 1, 2, 3, 4} {
		wantInt(t, "the row 1 of 2, 1", impl.NameOf(l, x, 1), name)
	}
	wantInt(t, "to the left in 2, 1", impl.NameOf(l, -1, 0), 4)
	wantInt(t, "above in 2, 1", impl.NameOf(l, 0, -1), 2)
	wantInt(t, "to the left and above in 2, 1", impl.NameOf(l, -2, -1), 0)
	wantInt(t, "the last name of 3, 0", impl.NameOf(latticeOf(3, 0), 5, -4), 8)
	wantInt(t, "a point of 3, 0", impl.NameOf(latticeOf(3, 0), 4, 3), 1)
	wantInt(t, "two rows down in 2, 2", impl.NameOf(latticeOf(2, 2), 0, 2), 2)
	wantInt(t, "three rows down in 2, 2", impl.NameOf(latticeOf(2, 2), 0, 3), 6)
	wantInt(t, "the only name of 1, 0", impl.NameOf(latticeOf(1, 0), -77, 5), 0)
	wantInt(t, "the last name of 12, 12", impl.NameOf(latticeOf(12, 12), 23, 11), 287)
}

// TestNameOf lays the names out from the points of the lattice, and so tells that there are n names, too.
func TestNameOf(t *testing.T) {
	const side = 40
	for _, l := range eachLattice() {
		names, once := tiledNames(l, side)
		wantBool(t, "each point has one name in "+latticeName(l), once, true)
		for i, name := range names {
			x, y := i%(2*side+1)-side, i/(2*side+1)-side
			wantInt(t, "the name of "+pointName(x, y)+" in "+latticeName(l), impl.NameOf(l, x, y), name)
		}
	}
}

func TestNameOfFarPoints(t *testing.T) {
	places := []int{-100000, -99999, -65536, -289, -1, 0, 1, 288, 50021, 99999, 100000}
	for _, l := range eachLattice() {
		for _, x := range places {
			for _, y := range places {
				wantInt(t, "the name of "+pointName(x, y)+" in "+latticeName(l), impl.NameOf(l, x, y), nameBySearch(l, x, y))
			}
		}
	}
}

func TestNameOfPointsThatAreTooFar(t *testing.T) {
	outside := []int{math.MinInt, math.MinInt + 1, -1 << 32, -100002, -100001, 100001, 100002, 1 << 32, math.MaxInt - 1, math.MaxInt}
	for _, l := range eachLattice() {
		for _, far := range outside {
			for _, n := range append([]int{-100000, 0, 7, 100000}, outside...) {
				wantInt(t, "a point that is too far across in "+latticeName(l), impl.NameOf(l, far, n), -1)
				wantInt(t, "a point that is too far down in "+latticeName(l), impl.NameOf(l, n, far), -1)
			}
		}
	}
}

func wantNoPoint(t *testing.T, what string, l impl.Lattice, name int) {
	t.Helper()
	u, v, ok := impl.PointOf(l, name)
	if u != 0 || v != 0 || ok {
		t.Errorf("%s: the point of the name %d: got %d, %d, %v, want 0, 0, false", what, name, u, v, ok)
	}
}

func TestPointOf(t *testing.T) {
	for _, l := range eachLattice() {
		_, period, divisor := shapeOf(l)
		for v := range divisor {
			for u := range period {
				name := v*period + u
				a, b, ok := impl.PointOf(l, name)
				if a != u || b != v || !ok {
					t.Errorf("the point of the name %d of %s: got %d, %d, %v, want %d, %d", name, latticeName(l), a, b, ok, u, v)
				}
				wantInt(t, "the name of the point of a name of "+latticeName(l), impl.NameOf(l, a, b), name)
			}
		}
	}
}

// namesThatAreNone has numbers that are no names of a lattice.
func namesThatAreNone(l impl.Lattice) []int {
	area, _, _ := shapeOf(l)
	return []int{math.MinInt, -1 << 32, -area, -2, -1, area, area + 1, 2 * area, 1 << 32, math.MaxInt}
}

func TestNamesThatAreNone(t *testing.T) {
	for _, l := range eachLattice() {
		for _, name := range namesThatAreNone(l) {
			what := number(name) + " in " + latticeName(l)
			wantNoPoint(t, what, l, name)
			wantInt(t, "NearOf of "+what, impl.NearOf(l, name), -1)
			wantInt(t, "TurnName of "+what, impl.TurnName(l, name), -1)
		}
	}
}

func TestTurnNameExamples(t *testing.T) {
	for name, turned := range []int{0, 3, 1, 4, 2} {
		wantInt(t, "a name of 2, 1", impl.TurnName(latticeOf(2, 1), name), turned)
	}
	for name, turned := range []int{0, 3, 6, 2, 5, 8, 1, 4, 7} {
		wantInt(t, "a name of 3, 0", impl.TurnName(latticeOf(3, 0), name), turned)
	}
	wantInt(t, "the name of 1, 0", impl.TurnName(latticeOf(1, 0), 0), 0)
	wantInt(t, "a name of 1, 1", impl.TurnName(latticeOf(1, 1), 1), 1)
}

func TestTurnName(t *testing.T) {
	for _, l := range eachLattice() {
		area, period, _ := shapeOf(l)
		for name := range area {
			want := nameBySearch(l, -(name / period), name%period)
			wantInt(t, "the name "+number(name)+" turned in "+latticeName(l), impl.TurnName(l, name), want)
		}
	}
}
