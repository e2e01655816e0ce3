package tests

import (
	"testing"

	"loop.example/g03229/impl"
)

func wantNears(t *testing.T, l impl.Lattice, want ...int) {
	t.Helper()
	var got []int
	for name := range impl.AreaOf(l) {
		got = append(got, impl.NearOf(l, name))
	}
	wantInts(t, "the distances of "+latticeName(l), got, want...)
}

func TestNearOfExamples(t *testing.T) {
	wantNears(t, latticeOf(1, 0), 0)
	wantNears(t, latticeOf(1, 1), 0, 1)
	wantNears(t, latticeOf(2, 0), 0, 1, 1, 2)
	wantNears(t, latticeOf(2, 1), 0, 1, 1, 1, 1)
	wantNears(t, latticeOf(1, 2), 0, 1, 1, 1, 1)
	wantNears(t, latticeOf(3, 0), 0, 1, 1, 1, 2, 2, 1, 2, 2)
	wantNears(t, latticeOf(2, 2), 0, 1, 4, 1, 1, 2, 1, 2)
	wantNears(t, latticeOf(3, 1), 0, 1, 2, 1, 2, 5, 2, 1, 2, 1)
	wantInt(t, "the middle of 12, 0", impl.NearOf(latticeOf(12, 0), 78), 72)
	wantInt(t, "the middle of 12, 12", impl.NearOf(latticeOf(12, 12), 12), 144)
}

func TestNearOf(t *testing.T) {
	for _, l := range eachLattice() {
		area, _, _ := shapeOf(l)
		for name := range area {
			wantInt(t, "the name "+number(name)+" of "+latticeName(l), impl.NearOf(l, name), nearByPoints(l, name))
		}
	}
}

func TestSpotRanksExamples(t *testing.T) {
	wantInts(t, "1, 0", impl.SpotRanks(latticeOf(1, 0)), 0)
	wantInts(t, "1, 1", impl.SpotRanks(latticeOf(1, 1)), 0, 1)
	wantInts(t, "2, 0", impl.SpotRanks(latticeOf(2, 0)), 0, 1, 2, 3)
	wantInts(t, "2, 1", impl.SpotRanks(latticeOf(2, 1)), 0, 1, 2, 3, 4)
	wantInts(t, "2, 2", impl.SpotRanks(latticeOf(2, 2)), 0, 1, 7, 2, 3, 5, 4, 6)
	wantInts(t, "3, 0", impl.SpotRanks(latticeOf(3, 0)), 0, 1, 2, 3, 5, 6, 4, 7, 8)
	wantInts(t, "3, 1", impl.SpotRanks(latticeOf(3, 1)), 0, 1, 5, 2, 6, 9, 7, 3, 8, 4)
}

func TestSpotRanks(t *testing.T) {
	for _, l := range eachLattice() {
		got := impl.SpotRanks(l)
		wantInts(t, "the ranks of "+latticeName(l), got, spotRanksByCounting(l)...)
		wantBool(t, "each rank of "+latticeName(l)+" is there once", areEachOnce(got), true)
	}
}

func TestSpotPlateExamples(t *testing.T) {
	plate, ok := impl.SpotPlate(latticeOf(2, 1), 1, 5, 2)
	wantPictureOk(t, "one name of 2, 1", plate, ok, pictureOf(5, 2, 1, 0, 0, 0, 0, 0, 0, 1, 0, 0))
	plate, ok = impl.SpotPlate(latticeOf(2, 1), 3, 4, 2)
	wantPictureOk(t, "three names of 2, 1", plate, ok, pictureOf(4, 2, 1, 1, 1, 0, 0, 0, 1, 1))
	plate, ok = impl.SpotPlate(latticeOf(2, 2), 5, 4, 4)
	wantPictureOk(t, "five names of 2, 2", plate, ok, pictureOf(4, 4, 1, 1, 0, 1, 1, 0, 1, 0, 0, 1, 1, 1, 1, 0, 1, 0))
	plate, ok = impl.SpotPlate(latticeOf(12, 12), 1, 1, 1)
	wantPictureOk(t, "a dot", plate, ok, pictureOf(1, 1, 1))
	plate, ok = impl.SpotPlate(latticeOf(12, 12), 0, 1, 1)
	wantPictureOk(t, "no dot", plate, ok, pictureOf(1, 1, 0))
}

// sizesOfSpotPlates has one point, the greatest sides and sizes between them.
func sizesOfSpotPlates() [][2]int {
	return [][2]int{{1, 1}, {2, 1}, {1, 2}, {7, 5}, {64, 1}, {1, 64}, {64, 16}, {16, 64}, {32, 32}}
}

func wantSpotPlate(t *testing.T, l impl.Lattice, ranks []int, level, width, height int) {
	t.Helper()
	plate, ok := impl.SpotPlate(l, level, width, height)
	what := "the level " + number(level) + " of " + latticeName(l) + ", " + sizeName(width, height)
	wantPictureOk(t, what, plate, ok, spotPlateByNames(l, ranks, level, width, height))
}

func TestSpotPlateOfEachLattice(t *testing.T) {
	for _, l := range eachLattice() {
		ranks := spotRanksByCounting(l)
		area := len(ranks)
		for _, level := range []int{0, 1, area / 3, area - 1, area} {
			wantSpotPlate(t, l, ranks, level, 13, 9)
		}
	}
}

func TestSpotPlateOfEachSizeAndLevel(t *testing.T) {
	for _, l := range []impl.Lattice{latticeOf(1, 0), latticeOf(2, 1), latticeOf(4, 2), latticeOf(1, 4)} {
		ranks := spotRanksByCounting(l)
		for level := range len(ranks) + 1 {
			for _, size := range sizesOfSpotPlates() {
				wantSpotPlate(t, l, ranks, level, size[0], size[1])
			}
		}
	}
}

func TestSpotPlateOfTheFirstAndLastLevel(t *testing.T) {
	for _, l := range eachLattice() {
		for _, size := range sizesOfSpotPlates() {
			empty, _ := impl.FlatPicture(size[0], size[1], 0)
			plate, ok := impl.SpotPlate(l, 0, size[0], size[1])
			wantPictureOk(t, "the level 0 of "+latticeName(l), plate, ok, empty)
			full, _ := impl.FlatPicture(size[0], size[1], 1)
			plate, ok = impl.SpotPlate(l, impl.AreaOf(l), size[0], size[1])
			wantPictureOk(t, "the last level of "+latticeName(l), plate, ok, full)
		}
	}
}

func TestSpotPlateOfNoLevel(t *testing.T) {
	for _, l := range eachLattice() {
		for _, level := range namesThatAreNone(l) {
			if level == impl.AreaOf(l) {
				continue
			}
			plate, ok := impl.SpotPlate(l, level, 3, 2)
			wantRefused(t, "the level "+number(level)+" of "+latticeName(l), plate, ok)
		}
	}
}

func TestSpotPlateOfNoSize(t *testing.T) {
	l := latticeOf(3, 2)
	for _, size := range [][2]int{{0, 0}, {0, 1}, {1, 0}, {-1, 1}, {1, -1}, {-2, -2}, {65, 1}, {1, 65}, {33, 32}, {64, 17}, {17, 64}} {
		plate, ok := impl.SpotPlate(l, 5, size[0], size[1])
		wantRefused(t, sizeName(size[0], size[1]), plate, ok)
	}
	for _, width := range extremes {
		for _, height := range extremes {
			if !isSizeOfPicture(width, height) {
				plate, ok := impl.SpotPlate(l, 13, width, height)
				wantRefused(t, sizeName(width, height), plate, ok)
			}
		}
	}
}

func TestSpotMatrixExamples(t *testing.T) {
	m, ok := impl.SpotMatrix(latticeOf(1, 0))
	wantMatrixOk(t, "1, 0", m, ok, matrixOf(1, 1, 0))
	m, ok = impl.SpotMatrix(latticeOf(1, 1))
	wantMatrixOk(t, "1, 1", m, ok, matrixOf(2, 2, 0, 2, 3, 1))
	m, ok = impl.SpotMatrix(latticeOf(2, 0))
	wantMatrixOk(t, "2, 0", m, ok, matrixOf(2, 2, 0, 1, 2, 3))
	m, ok = impl.SpotMatrix(latticeOf(2, 2))
	wantMatrixOk(t, "2, 2", m, ok, matrixOf(4, 4, 0, 2, 14, 4, 6, 10, 8, 12, 15, 5, 1, 3, 9, 13, 7, 11))
	m, ok = impl.SpotMatrix(latticeOf(3, 0))
	wantMatrixOk(t, "3, 0", m, ok, matrixOf(3, 3, 0, 1, 2, 3, 5, 6, 4, 7, 8))
	m, ok = impl.SpotMatrix(latticeOf(2, 1))
	wantMatrixOk(t, "2, 1", m, ok, matrixOf(5, 5,
		0, 5, 10, 15, 20,
		16, 21, 1, 6, 11,
		7, 12, 17, 22, 2,
		23, 3, 8, 13, 18,
		14, 19, 24, 4, 9))
}

func TestSpotMatrix(t *testing.T) {
	for _, l := range eachLattice() {
		_, period, _ := shapeOf(l)
		m, ok := impl.SpotMatrix(l)
		if period > 16 {
			wantNoMatrix(t, "the matrix of "+latticeName(l), m, ok)
			continue
		}
		ranks := spotRanksByCounting(l)
		var spots []int
		for i := range period * period {
			spots = append(spots, ranks[nameBySearch(l, i%period, i/period)])
		}
		wantMatrixOk(t, "the matrix of "+latticeName(l), m, ok, matrixOf(period, period, ranksByCounting(spots)...))
		wantBool(t, "the matrix of "+latticeName(l)+" is one", impl.IsMatrix(m), true)
	}
}

func TestSpotMatrixAtTheGreatestPeriods(t *testing.T) {
	for _, l := range []impl.Lattice{latticeOf(8, 8), latticeOf(12, 0), latticeOf(3, 6), latticeOf(6, 3)} {
		_, ok := impl.SpotMatrix(l)
		wantBool(t, "the matrix of "+latticeName(l), ok, true)
	}
	for _, l := range []impl.Lattice{latticeOf(9, 9), latticeOf(4, 1), latticeOf(1, 4), latticeOf(4, 8), latticeOf(12, 11), latticeOf(12, 12)} {
		m, ok := impl.SpotMatrix(l)
		wantNoMatrix(t, "the matrix of "+latticeName(l), m, ok)
	}
}

// TestSpotMatrixAndSpotPlate compares the two: each name has as many cells of the matrix as any other.
func TestSpotMatrixAndSpotPlate(t *testing.T) {
	for _, l := range eachLattice() {
		m, ok := impl.SpotMatrix(l)
		if !ok {
			continue
		}
		area := impl.AreaOf(l)
		for level := range area + 1 {
			plate, _ := impl.SpotPlate(l, level, m.Width, m.Height)
			below := impl.CellsBelow(m, level*len(m.Ranks)/area)
			wantPicture(t, "the level "+number(level)+" of "+latticeName(l), below, plate)
		}
	}
}
