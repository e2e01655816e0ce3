package tests

import (
	"testing"

	"loop.example/g03229/impl"
)

func TestConstantsOfFields(t *testing.T) {
	wantInt(t, "MaxField", impl.MaxField, 256)
}

func TestIsField(t *testing.T) {
	for _, s := range allFields() {
		wantBool(t, s.name, impl.IsField(s.picture), true)
	}
	for _, s := range badFields() {
		wantBool(t, s.name, impl.IsField(s.picture), false)
	}
}

func TestIsFieldOfEachSize(t *testing.T) {
	for width := 1; width <= 66; width++ {
		for height := 1; height <= 66; height++ {
			wantBool(t, sizeName(width, height), impl.IsField(filledPlate(width, height, 1)), isSizeOfField(width, height))
		}
	}
}

// TestNoField asks each function that takes a field; TestSwapStepOfNoField and TestEvenFieldOfNoField ask the other two.
func TestNoField(t *testing.T) {
	for _, s := range badFields() {
		for _, i := range append([]int{4, 100, 257}, extremes...) {
			wantInt(t, "PairWeight of "+s.name, impl.PairWeight(s.picture, i, 0), 0)
			wantInt(t, "PairWeight of "+s.name, impl.PairWeight(s.picture, 0, i), 0)
			wantInt(t, "PairWeight of "+s.name, impl.PairWeight(s.picture, i, i), 0)
			wantInt(t, "CrowdAt of "+s.name, impl.CrowdAt(s.picture, i), -1)
		}
		wantInt(t, "TightestDot of "+s.name, impl.TightestDot(s.picture), -1)
		wantInt(t, "WidestVoid of "+s.name, impl.WidestVoid(s.picture), -1)
		wantInt(t, "RoughnessOf of "+s.name, impl.RoughnessOf(s.picture), -1)
		m, ok := impl.RankField(s.picture)
		wantNoMatrix(t, "RankField of "+s.name, m, ok)
	}
}

func wantWeights(t *testing.T, p impl.Picture, i int, want ...int) {
	t.Helper()
	for k, weight := range want {
		wantInt(t, "the weight of "+number(i)+" and "+number(k)+", "+sizeName(p.Width, p.Height), impl.PairWeight(p, i, k), weight)
	}
}

func TestPairWeightExamples(t *testing.T) {
	wantWeights(t, filledPlate(1, 1, 0), 0, 4096)
	wantWeights(t, filledPlate(4, 1, 2), 0, 4096, 2048, 819, 2048)
	wantWeights(t, filledPlate(1, 5, 2), 1, 2048, 4096, 2048, 819, 819)
	wantWeights(t, filledPlate(2, 2, 4), 0, 4096, 2048, 2048, 1365)
	wantWeights(t, filledPlate(3, 2, 0), 5, 1365, 1365, 2048, 2048, 2048, 4096)
	wantInt(t, "the corners of 5, 4", impl.PairWeight(filledPlate(5, 4, 0), 0, 19), 1365)
	wantInt(t, "half of the longest row", impl.PairWeight(filledPlate(64, 1, 0), 0, 32), 3)
	wantInt(t, "most of the longest row", impl.PairWeight(filledPlate(64, 1, 0), 1, 63), 819)
	wantInt(t, "half of the longest column", impl.PairWeight(filledPlate(1, 64, 0), 63, 31), 3)
	wantInt(t, "the farthest point of 16, 16", impl.PairWeight(filledPlate(16, 16, 0), 0, 136), 31)
	wantInt(t, "the farthest point of 64, 4", impl.PairWeight(filledPlate(64, 4, 0), 160, 0), 3)
}

func TestPairWeight(t *testing.T) {
	for _, s := range goodFields() {
		points := len(s.picture.Ink)
		for i := range points {
			for k := range points {
				want := weightByCopies(s.picture.Width, s.picture.Height, i, k)
				wantInt(t, "the weight of "+number(i)+" and "+number(k)+" of "+s.name, impl.PairWeight(s.picture, i, k), want)
			}
		}
	}
}

// pointsThatAreNone has numbers that are no indices of points of p.
func pointsThatAreNone(p impl.Picture) []int {
	points := len(p.Ink)
	none := []int{-points, points, points + 1, 2 * points, 257, 1024}
	for _, i := range extremes {
		if i < 0 || i >= points {
			none = append(none, i)
		}
	}
	return none
}

func TestPointsThatAreNone(t *testing.T) {
	for _, s := range goodFields() {
		last := len(s.picture.Ink) - 1
		for _, i := range pointsThatAreNone(s.picture) {
			what := number(i) + " in " + s.name
			wantInt(t, "the weight of "+what+" and the first point", impl.PairWeight(s.picture, i, 0), 0)
			wantInt(t, "the weight of the first point and "+what, impl.PairWeight(s.picture, 0, i), 0)
			wantInt(t, "the weight of the last point and "+what, impl.PairWeight(s.picture, last, i), 0)
			wantInt(t, "the weight of twice "+what, impl.PairWeight(s.picture, i, i), 0)
			wantInt(t, "the crowd at "+what, impl.CrowdAt(s.picture, i), -1)
		}
	}
}

func wantCrowds(t *testing.T, what string, p impl.Picture, want ...int) {
	t.Helper()
	var got []int
	for i := range p.Ink {
		got = append(got, impl.CrowdAt(p, i))
	}
	wantInts(t, "the crowds of "+what, got, want...)
}

func TestCrowdAtExamples(t *testing.T) {
	wantCrowds(t, "one void", pictureOf(1, 1, 0), 0)
	wantCrowds(t, "one dot", pictureOf(1, 1, 1), 4096)
	wantCrowds(t, "no dots", filledPlate(3, 2, 0), 0, 0, 0, 0, 0, 0)
	wantCrowds(t, "dots in a row", pictureOf(4, 1, 1, 1, 0, 0), 6144, 6144, 2867, 2867)
	wantCrowds(t, "dots in a column", pictureOf(1, 4, 0, 1, 0, 1), 4096, 4915, 4096, 4915)
	wantCrowds(t, "dots only", filledPlate(2, 2, 4), 9557, 9557, 9557, 9557)
	// Each of the four weights of the corners is rounded down by itself: their sum is 5460, not 5461.
	crowd := 4096 + 4*2048 + 4*1365
	wantCrowds(t, "nine dots", filledPlate(3, 3, 9), crowd, crowd, crowd, crowd, crowd, crowd, crowd, crowd, crowd)
}

func TestCrowdAt(t *testing.T) {
	for _, s := range allFields() {
		table := weightTable(s.picture.Width, s.picture.Height)
		wantCrowds(t, s.name, s.picture, crowdsByTable(table, s.picture.Ink)...)
	}
}

func TestCrowdAtIsASumOfWeights(t *testing.T) {
	for _, s := range goodFields() {
		for i := range s.picture.Ink {
			sum := 0
			for k, dot := range s.picture.Ink {
				sum += dot * impl.PairWeight(s.picture, i, k)
			}
			wantInt(t, "the crowd at "+number(i)+" of "+s.name, impl.CrowdAt(s.picture, i), sum)
		}
	}
}

func TestRoughnessOfExamples(t *testing.T) {
	wantInt(t, "one void", impl.RoughnessOf(pictureOf(1, 1, 0)), 0)
	wantInt(t, "one dot", impl.RoughnessOf(pictureOf(1, 1, 1)), 16777216)
	wantInt(t, "a dot and a void", impl.RoughnessOf(pictureOf(2, 1, 1, 0)), 20971520)
	wantInt(t, "no dots", impl.RoughnessOf(filledPlate(16, 16, 0)), 0)
	wantInt(t, "dots only", impl.RoughnessOf(filledPlate(2, 2, 4)), 4*9557*9557)
	wantInt(t, "dots in a row", impl.RoughnessOf(pictureOf(4, 1, 1, 1, 0, 0)), 2*6144*6144+2*2867*2867)
	wantInt(t, "nine dots", impl.RoughnessOf(filledPlate(3, 3, 9)), 9*17748*17748)
}

func TestRoughnessOf(t *testing.T) {
	for _, s := range allFields() {
		sum := 0
		for _, crowd := range crowdsByTable(weightTable(s.picture.Width, s.picture.Height), s.picture.Ink) {
			sum += crowd * crowd
		}
		wantInt(t, s.name, impl.RoughnessOf(s.picture), sum)
	}
}
