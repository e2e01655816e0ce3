package tests

import (
	"math"
	"testing"

	"loop.example/g03229/impl"
)

// seedByMultiples goes through the multiples of every, and sets a dot where one of them is 7 times an index.
func seedByMultiples(width, height, every int) []int {
	ink := make([]int, width*height)
	for multiple := 0; multiple < 7*len(ink); multiple += every {
		if multiple%7 == 0 {
			ink[multiple/7] = 1
		}
	}
	return ink
}

func wantSeed(t *testing.T, width, height, every int, want ...int) {
	t.Helper()
	got, ok := impl.SeedField(width, height, every)
	what := "the seed with every " + number(every) + ", " + sizeName(width, height)
	wantPictureOk(t, what, got, ok, pictureOf(width, height, want...))
}

func TestSeedFieldExamples(t *testing.T) {
	wantSeed(t, 1, 1, 1, 1)
	wantSeed(t, 1, 1, 100, 1)
	wantSeed(t, 4, 1, 2, 1, 0, 1, 0)
	wantSeed(t, 1, 4, 3, 1, 0, 0, 1)
	wantSeed(t, 3, 2, 1, 1, 1, 1, 1, 1, 1)
	wantSeed(t, 3, 2, 4, 1, 0, 0, 0, 1, 0)
	wantSeed(t, 3, 2, 7, 1, 1, 1, 1, 1, 1)
	wantSeed(t, 3, 2, 14, 1, 0, 1, 0, 1, 0)
	wantSeed(t, 3, 2, 35, 1, 0, 0, 0, 0, 1)
	wantSeed(t, 3, 2, 100, 1, 0, 0, 0, 0, 0)
}

func TestSeedFieldOfTheGreatestStep(t *testing.T) {
	seed, ok := impl.SeedField(16, 16, 100)
	want := filledPlate(16, 16, 0)
	want.Ink[0], want.Ink[100], want.Ink[200] = 1, 1, 1
	wantPictureOk(t, "every 100 of 256 points", seed, ok, want)
}

func TestSeedField(t *testing.T) {
	for _, size := range [][2]int{{1, 1}, {2, 1}, {1, 7}, {5, 3}, {64, 1}, {1, 64}, {15, 17}, {16, 16}, {64, 4}, {4, 64}} {
		for every := 1; every <= 100; every++ {
			wantSeed(t, size[0], size[1], every, seedByMultiples(size[0], size[1], every)...)
		}
	}
}

func TestSeedFieldOfEachSize(t *testing.T) {
	for width := -2; width <= 66; width++ {
		for height := -2; height <= 66; height++ {
			seed, ok := impl.SeedField(width, height, 3)
			if !isSizeOfField(width, height) {
				wantRefused(t, "the seed of "+sizeName(width, height), seed, ok)
				continue
			}
			wantBool(t, "the seed of "+sizeName(width, height), ok, true)
			wantBool(t, "the seed of "+sizeName(width, height)+" is a field", impl.IsField(seed), true)
		}
	}
}

func TestSeedFieldOfNoSize(t *testing.T) {
	for _, width := range extremes {
		for _, height := range extremes {
			if !isSizeOfField(width, height) {
				seed, ok := impl.SeedField(width, height, 1)
				wantRefused(t, "the seed of "+sizeName(width, height), seed, ok)
			}
		}
	}
	for _, size := range [][2]int{{257, 1}, {1, 257}, {43, 6}, {6, 43}, {17, 16}, {16, 17}, {64, 5}, {65, 3}, {256, 1}} {
		seed, ok := impl.SeedField(size[0], size[1], 100)
		wantRefused(t, "the seed of "+sizeName(size[0], size[1]), seed, ok)
	}
}

func TestSeedFieldOfNoStep(t *testing.T) {
	for _, every := range []int{math.MinInt, math.MinInt + 1, -1 << 32, -100, -7, -1, 0, 101, 102, 256, 1 << 32, math.MaxInt - 1, math.MaxInt} {
		for _, size := range [][2]int{{1, 1}, {4, 1}, {16, 16}, {0, 0}, {64, 5}} {
			seed, ok := impl.SeedField(size[0], size[1], every)
			wantRefused(t, "the seed with every "+number(every)+", "+sizeName(size[0], size[1]), seed, ok)
		}
	}
}
