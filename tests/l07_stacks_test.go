package tests

import (
	"slices"
	"testing"

	"loop.example/g03229/impl"
)

func TestConstantsOfStacks(t *testing.T) {
	wantInt(t, "MaxPlates", impl.MaxPlates, 4)
}

func TestIsStack(t *testing.T) {
	for _, s := range allStacks() {
		wantBool(t, s.name, impl.IsStack(s.plates), true)
	}
	for _, s := range badStacks() {
		wantBool(t, s.name, impl.IsStack(s.plates), false)
	}
}

func TestIsStackOfEachNumberOfPlates(t *testing.T) {
	var plates []impl.Picture
	for count := range 20 {
		wantBool(t, number(count)+" plates", impl.IsStack(plates), count >= 1 && count <= 4)
		plates = append(plates, turnedNoise(5, 4))
	}
}

func TestIsStackOfEachSize(t *testing.T) {
	for width := range 67 {
		for height := range 67 {
			plate := filledPlate(width, height, 0)
			what := "two plates of " + sizeName(width, height)
			wantBool(t, what, impl.IsStack(stackOf(plate, plate)), isSizeOfPicture(width, height))
		}
	}
}

// TestIsStackOfEachPairOfSizes has plates whose sizes differ in one side, in both, or not at all.
func TestIsStackOfEachPairOfSizes(t *testing.T) {
	for a := range 36 {
		for b := range 36 {
			p, q := filledPlate(1+a%6, 1+a/6, 1), filledPlate(1+b%6, 1+b/6, 0)
			what := sizeName(p.Width, p.Height) + " and " + sizeName(q.Width, q.Height)
			wantBool(t, what, impl.IsStack(stackOf(p, q)), a == b)
			wantBool(t, "twice "+what, impl.IsStack(stackOf(p, p, q)), a == b)
		}
	}
}

func TestIsStackWithEachAmount(t *testing.T) {
	for _, ink := range append([]int{4, 5, 127, 128}, extremes...) {
		for place := range 4 {
			stack := []impl.Picture{filledPlate(2, 1, 2), filledPlate(2, 1, 2), filledPlate(2, 1, 2), filledPlate(2, 1, 2)}
			stack[place] = pictureOf(2, 1, 1, ink)
			wantBool(t, "an amount of "+number(ink), impl.IsStack(stack), ink == 0 || ink == 1)
		}
	}
}

func TestMarkAtExamples(t *testing.T) {
	rows := stackOf(pictureOf(4, 1, 1, 1, 0, 0), pictureOf(4, 1, 1, 0, 1, 0))
	for x, mark := range []int{3, 1, 2, 0} {
		wantInt(t, "two rows at "+number(x), impl.MarkAt(rows, x, 0), mark)
	}
	four := stackOf(pictureOf(2, 2, 1, 0, 0, 0), pictureOf(2, 2, 1, 1, 0, 0), pictureOf(2, 2, 1, 0, 1, 0), pictureOf(2, 2, 1, 0, 0, 1))
	wantInt(t, "four plates at the left upper point", impl.MarkAt(four, 0, 0), 15)
	wantInt(t, "four plates at the right upper point", impl.MarkAt(four, 1, 0), 2)
	wantInt(t, "four plates at the left lower point", impl.MarkAt(four, 0, 1), 4)
	wantInt(t, "four plates at the right lower point", impl.MarkAt(four, 1, 1), 8)
	wantInt(t, "a void", impl.MarkAt(stackOf(pictureOf(1, 1, 0)), 0, 0), 0)
	wantInt(t, "a dot", impl.MarkAt(stackOf(pictureOf(1, 1, 1)), 0, 0), 1)
}

func TestMarkAt(t *testing.T) {
	for _, s := range allStacks() {
		for y := range s.plates[0].Height {
			for x := range s.plates[0].Width {
				wantInt(t, s.name+" at "+pointName(x, y), impl.MarkAt(s.plates, x, y), markByPlates(s.plates, x, y))
			}
		}
	}
}

func TestMarkAtOutside(t *testing.T) {
	for _, s := range goodStacks() {
		width, height := s.plates[0].Width, s.plates[0].Height
		for _, x := range append([]int{width, width + 1, -width}, extremes...) {
			for _, y := range append([]int{height, height + 1, -height}, extremes...) {
				if x < 0 || x >= width || y < 0 || y >= height {
					wantInt(t, s.name+" at "+pointName(x, y), impl.MarkAt(s.plates, x, y), -1)
				}
			}
		}
		for _, x := range append([]int{width}, extremes...) {
			if x < 0 || x >= width {
				wantInt(t, s.name+" beside the last row", impl.MarkAt(s.plates, x, height-1), -1)
			}
		}
		wantInt(t, s.name+" below the last column", impl.MarkAt(s.plates, width-1, height), -1)
		wantInt(t, s.name+" above the last column", impl.MarkAt(s.plates, width-1, -1), -1)
	}
}

// TestNoStack asks each function that takes a stack.
func TestNoStack(t *testing.T) {
	for _, s := range badStacks() {
		for _, x := range []int{-1, 0, 1} {
			wantInt(t, "MarkAt of "+s.name, impl.MarkAt(s.plates, x, 0), -1)
			wantInt(t, "MarkAt of "+s.name, impl.MarkAt(s.plates, 0, x), -1)
		}
		wantInts(t, "MarkCounts of "+s.name, impl.MarkCounts(s.plates))
		for plates := range 5 {
			colors := slices.Repeat([]int{7}, numbersOfMarks(plates))
			wantNoBlend(t, number(len(colors))+" colors for "+s.name, s.plates, colors)
		}
		wantNoBlend(t, "no colors for "+s.name, s.plates, nil)
		wantNoBlend(t, "32 colors for "+s.name, s.plates, make([]int, 32))
	}
}

func TestMarkCountsExamples(t *testing.T) {
	wantInts(t, "a void", impl.MarkCounts(stackOf(pictureOf(1, 1, 0))), 1, 0)
	wantInts(t, "a dot", impl.MarkCounts(stackOf(pictureOf(1, 1, 1))), 0, 1)
	wantInts(t, "two rows", impl.MarkCounts(stackOf(pictureOf(4, 1, 1, 1, 0, 0), pictureOf(4, 1, 1, 0, 1, 0))), 1, 1, 1, 1)
	wantInts(t, "a first plate with dots only", impl.MarkCounts(stackOf(filledPlate(3, 2, 6), filledPlate(3, 2, 2))), 0, 4, 0, 2)
	wantInts(t, "a last plate with dots only", impl.MarkCounts(stackOf(filledPlate(3, 2, 2), filledPlate(3, 2, 6))), 0, 0, 4, 2)
	three := stackOf(filledPlate(3, 2, 1), filledPlate(3, 2, 3), filledPlate(3, 2, 6))
	wantInts(t, "three plates", impl.MarkCounts(three), 0, 0, 0, 0, 3, 0, 2, 1)
	empty, full := filledPlate(32, 32, 0), filledPlate(32, 32, 1024)
	wantInts(t, "four plates without a dot", impl.MarkCounts(stackOf(empty, empty, empty, empty)), 1024, 0, 0, 0, 0, 0, 0, 0, 0, 0, 0, 0, 0, 0, 0, 0)
	wantInts(t, "four plates with dots only", impl.MarkCounts(stackOf(full, full, full, full)), 0, 0, 0, 0, 0, 0, 0, 0, 0, 0, 0, 0, 0, 0, 0, 1024)
}

// The tests that follow are those of the first half of promise P7.

func TestMarkCounts(t *testing.T) {
	for _, s := range allStacks() {
		want := make([]int, numbersOfMarks(len(s.plates)))
		marks := marksByPlates(s.plates)
		for mark := range want {
			want[mark] = countOf(marks, mark)
		}
		wantInts(t, s.name, impl.MarkCounts(s.plates), want...)
	}
}

func TestMarksCountEveryPoint(t *testing.T) {
	for _, s := range allStacks() {
		counts := impl.MarkCounts(s.plates)
		wantInt(t, "the numbers of "+s.name, len(counts), numbersOfMarks(len(s.plates)))
		wantInt(t, "the points of "+s.name, sumOfInts(counts), s.plates[0].Width*s.plates[0].Height)
		for k, plate := range s.plates {
			dots := 0
			for mark, count := range counts {
				dots += mark >> k & 1 * count
			}
			wantInt(t, "the dots of the plate "+number(k)+" of "+s.name, dots, impl.SumInk(plate))
		}
	}
}

// TestMarksWithOneMorePlate lays a plate without a dot and one with dots only over a stack.
func TestMarksWithOneMorePlate(t *testing.T) {
	for _, s := range goodStacks() {
		if len(s.plates) == impl.MaxPlates {
			continue
		}
		width, height := s.plates[0].Width, s.plates[0].Height
		counts := impl.MarkCounts(s.plates)
		none := make([]int, len(counts))
		empty := append(slices.Clone(s.plates), filledPlate(width, height, 0))
		wantInts(t, s.name+" below a plate without a dot", impl.MarkCounts(empty), append(slices.Clone(counts), none...)...)
		full := append(slices.Clone(s.plates), filledPlate(width, height, width*height))
		wantInts(t, s.name+" below a plate with dots only", impl.MarkCounts(full), append(none, counts...)...)
	}
}
