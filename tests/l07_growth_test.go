package tests

import (
	"testing"

	"loop.example/g03229/impl"
)

// grownByDots sets the five dots of each dot, as if copies of the plate lay side by side.
func grownByDots(p impl.Picture) impl.Picture {
	grown := filledPlate(p.Width, p.Height, 0)
	for i, dot := range p.Ink {
		x, y := i%p.Width+p.Width, i/p.Width+p.Height
		for _, to := range [][2]int{{x, y}, {x - 1, y}, {x + 1, y}, {x, y - 1}, {x, y + 1}} {
			grown.Ink[to[1]%p.Height*p.Width+to[0]%p.Width] |= dot
		}
	}
	return grown
}

// shrunkByVoids clears the five points of each void.
func shrunkByVoids(p impl.Picture) impl.Picture {
	shrunk := filledPlate(p.Width, p.Height, p.Width*p.Height)
	for i, dot := range p.Ink {
		x, y := i%p.Width+p.Width, i/p.Width+p.Height
		for _, to := range [][2]int{{x, y}, {x - 1, y}, {x + 1, y}, {x, y - 1}, {x, y + 1}} {
			shrunk.Ink[to[1]%p.Height*p.Width+to[0]%p.Width] &= dot
		}
	}
	return shrunk
}

func wantGrowth(t *testing.T, what string, p impl.Picture, want ...int) {
	t.Helper()
	wantPicture(t, what+", grown", impl.GrowPlate(p), pictureOf(p.Width, p.Height, want...))
	wantInt(t, "the gain of "+what, impl.GainOf(p), sumOfInts(want)-sumOfInts(p.Ink))
}

func wantShrunk(t *testing.T, what string, p impl.Picture, want ...int) {
	t.Helper()
	wantPicture(t, what+", shrunk", impl.ShrinkPlate(p), pictureOf(p.Width, p.Height, want...))
}

func TestGrowPlateExamples(t *testing.T) {
	wantGrowth(t, "a dot at the left end", pictureOf(4, 1, 1, 0, 0, 0), 1, 1, 0, 1)
	wantGrowth(t, "a dot at the right end", pictureOf(5, 1, 0, 0, 0, 0, 1), 1, 0, 0, 1, 1)
	wantGrowth(t, "a dot at the upper end", pictureOf(1, 4, 1, 0, 0, 0), 1, 1, 0, 1)
	wantGrowth(t, "a dot in the middle of a column", pictureOf(1, 5, 0, 0, 1, 0, 0), 0, 1, 1, 1, 0)
	wantGrowth(t, "a dot in the middle", pictureOf(3, 3, 0, 0, 0, 0, 1, 0, 0, 0, 0), 0, 1, 0, 1, 1, 1, 0, 1, 0)
	wantGrowth(t, "a dot at the left upper corner", filledPlate(4, 3, 1), 1, 1, 0, 1, 1, 0, 0, 0, 1, 0, 0, 0)
	wantGrowth(t, "a dot at the right lower corner", pictureOf(4, 3, 0, 0, 0, 0, 0, 0, 0, 0, 0, 0, 0, 1), 0, 0, 0, 1, 0, 0, 0, 1, 1, 0, 1, 1)
	wantGrowth(t, "a dot at the right end of the first row", pictureOf(4, 3, 0, 0, 0, 1, 0, 0, 0, 0, 0, 0, 0, 0), 1, 0, 1, 1, 0, 0, 0, 1, 0, 0, 0, 1)
	wantGrowth(t, "a row without a dot", filledPlate(3, 1, 0), 0, 0, 0)
	wantGrowth(t, "a row with dots only", filledPlate(3, 1, 3), 1, 1, 1)
}

func TestShrinkPlateExamples(t *testing.T) {
	wantShrunk(t, "a row with one void", pictureOf(4, 1, 1, 1, 0, 1), 1, 0, 0, 0)
	wantShrunk(t, "a column with one void", pictureOf(1, 4, 1, 1, 0, 1), 1, 0, 0, 0)
	wantShrunk(t, "a row with a void at its end", pictureOf(5, 1, 1, 1, 1, 1, 0), 0, 1, 1, 0, 0)
	wantShrunk(t, "a cross", pictureOf(3, 3, 0, 1, 0, 1, 1, 1, 0, 1, 0), 0, 0, 0, 0, 1, 0, 0, 0, 0)
	wantShrunk(t, "a cross around the corner", pictureOf(4, 3, 1, 1, 0, 1, 1, 0, 0, 0, 1, 0, 0, 0), 1, 0, 0, 0, 0, 0, 0, 0, 0, 0, 0, 0)
	wantShrunk(t, "a cross without its middle", pictureOf(3, 3, 0, 1, 0, 1, 0, 1, 0, 1, 0), 0, 0, 0, 0, 0, 0, 0, 0, 0)
	wantShrunk(t, "a row without a dot", filledPlate(3, 1, 0), 0, 0, 0)
	wantShrunk(t, "a row with dots only", filledPlate(3, 1, 3), 1, 1, 1)
}

// TestGrowthOnASmallTorus has plates on which a point is its own neighbor, or the same one on both sides.
func TestGrowthOnASmallTorus(t *testing.T) {
	wantGrowth(t, "a void", pictureOf(1, 1, 0), 0)
	wantGrowth(t, "a dot", pictureOf(1, 1, 1), 1)
	wantShrunk(t, "a void", pictureOf(1, 1, 0), 0)
	wantShrunk(t, "a dot", pictureOf(1, 1, 1), 1)
	wantGrowth(t, "a row of two", pictureOf(2, 1, 0, 1), 1, 1)
	wantShrunk(t, "a row of two", pictureOf(2, 1, 0, 1), 0, 0)
	wantGrowth(t, "a column of two", pictureOf(1, 2, 1, 0), 1, 1)
	wantShrunk(t, "a column of two", pictureOf(1, 2, 1, 0), 0, 0)
	wantShrunk(t, "a row of two dots", filledPlate(2, 1, 2), 1, 1)
	wantShrunk(t, "a column of two dots", filledPlate(1, 2, 2), 1, 1)
	wantGrowth(t, "one dot of four", filledPlate(2, 2, 1), 1, 1, 1, 0)
	wantShrunk(t, "three dots of four", filledPlate(2, 2, 3), 1, 0, 0, 0)
	wantGrowth(t, "two rows", filledPlate(3, 2, 1), 1, 1, 1, 1, 0, 0)
	wantGrowth(t, "two columns", filledPlate(2, 3, 1), 1, 1, 1, 0, 1, 0)
}

func TestGrowthWithoutADotOrAVoid(t *testing.T) {
	for _, size := range [][2]int{{1, 1}, {1, 7}, {7, 1}, {2, 2}, {5, 3}, {64, 1}, {1, 64}, {64, 16}, {16, 64}, {32, 32}} {
		for _, dots := range []int{0, size[0] * size[1]} {
			plate := filledPlate(size[0], size[1], dots)
			wantGrowth(t, sizeName(size[0], size[1])+" with "+number(dots)+" dots", plate, plate.Ink...)
			wantShrunk(t, sizeName(size[0], size[1])+" with "+number(dots)+" dots", plate, plate.Ink...)
		}
	}
}

func TestGrowth(t *testing.T) {
	for _, s := range allPlates() {
		wantGrowth(t, s.name, s.picture, grownByDots(s.picture).Ink...)
		wantShrunk(t, s.name, s.picture, shrunkByVoids(s.picture).Ink...)
	}
}

// TestGrowthOfOneDot has each dot and each void of some sizes alone.
func TestGrowthOfOneDot(t *testing.T) {
	for _, size := range [][2]int{{1, 6}, {6, 1}, {2, 5}, {5, 2}, {3, 3}, {4, 5}, {64, 16}} {
		for i := range size[0] * size[1] {
			alone := filledPlate(size[0], size[1], 0)
			alone.Ink[i] = 1
			what := number(i) + " in " + sizeName(size[0], size[1])
			wantGrowth(t, "the only dot "+what, alone, grownByDots(alone).Ink...)
			wantShrunk(t, "the only dot "+what, alone, shrunkByVoids(alone).Ink...)
			negative := impl.NegativePicture(alone)
			wantGrowth(t, "the only void "+what, negative, grownByDots(negative).Ink...)
			wantShrunk(t, "the only void "+what, negative, shrunkByVoids(negative).Ink...)
		}
	}
}

func TestGrowthCoversThePlate(t *testing.T) {
	for _, s := range allPlates() {
		grown, shrunk := impl.GrowPlate(s.picture), impl.ShrinkPlate(s.picture)
		wantBool(t, s.name+", grown, covers it", impl.CoversPicture(grown, s.picture), true)
		wantBool(t, s.name+" covers it, shrunk", impl.CoversPicture(s.picture, shrunk), true)
		wantPicture(t, "the negative of "+s.name+", grown", impl.GrowPlate(impl.NegativePicture(s.picture)), impl.NegativePicture(shrunk))
		wantPicture(t, s.name+", turned and grown", impl.GrowPlate(impl.TurnPicture(s.picture)), impl.TurnPicture(grown))
		wantPicture(t, s.name+", turned and shrunk", impl.ShrinkPlate(impl.TurnPicture(s.picture)), impl.TurnPicture(shrunk))
		wantPicture(t, s.name+", mirrored and grown", impl.GrowPlate(impl.MirrorPicture(s.picture)), impl.MirrorPicture(grown))
	}
}

func TestGrowthOfNoPlate(t *testing.T) {
	for _, s := range badPlates() {
		wantPicture(t, s.name+", grown", impl.GrowPlate(s.picture), impl.Picture{})
		wantPicture(t, s.name+", shrunk", impl.ShrinkPlate(s.picture), impl.Picture{})
		wantInt(t, "the gain of "+s.name, impl.GainOf(s.picture), 0)
	}
}
