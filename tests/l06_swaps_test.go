package tests

import (
	"math"
	"testing"

	"loop.example/g03229/impl"
)

func wantStep(t *testing.T, what string, p impl.Picture, moved bool, want ...int) {
	t.Helper()
	got, ok := impl.SwapStep(p)
	wantPicture(t, "a step of "+what, got, pictureOf(p.Width, p.Height, want...))
	wantBool(t, "a step of "+what, ok, moved)
}

func TestSwapStepExamples(t *testing.T) {
	wantStep(t, "two dots and two voids", pictureOf(4, 1, 1, 1, 0, 0), true, 0, 1, 0, 1)
	wantStep(t, "a column", pictureOf(1, 4, 1, 1, 0, 0), true, 0, 1, 0, 1)
	wantStep(t, "two dots at the end", pictureOf(4, 1, 0, 0, 1, 1), true, 0, 1, 0, 1)
	wantStep(t, "one dot that is not the first point", pictureOf(3, 2, 0, 0, 0, 0, 1, 0), true, 1, 0, 0, 0, 0, 0)
	wantStep(t, "two rows", pictureOf(2, 2, 1, 1, 0, 0), true, 0, 1, 1, 0)
}

func TestSwapStepWhoseVoidIsTheDotItself(t *testing.T) {
	wantStep(t, "one dot that is the first point", pictureOf(3, 2, 1, 0, 0, 0, 0, 0), false, 1, 0, 0, 0, 0, 0)
	wantStep(t, "every second dot", pictureOf(4, 1, 1, 0, 1, 0), false, 1, 0, 1, 0)
	wantStep(t, "every second void", pictureOf(4, 1, 0, 1, 0, 1), false, 0, 1, 0, 1)
	wantStep(t, "dots in two corners", pictureOf(2, 2, 1, 0, 0, 1), false, 1, 0, 0, 1)
	wantStep(t, "equal crowds, and a void behind the dot", pictureOf(3, 1, 1, 1, 0), false, 1, 1, 0)
}

// TestSwapStepWithEqualCrowds has rows of three, in which all points are neighbors.
func TestSwapStepWithEqualCrowds(t *testing.T) {
	wantStep(t, "the void at the first point", pictureOf(3, 1, 0, 1, 1), true, 1, 0, 1)
	wantStep(t, "the void in the middle", pictureOf(3, 1, 1, 0, 1), false, 1, 0, 1)
	wantStep(t, "the dot in the middle", pictureOf(3, 1, 0, 1, 0), true, 1, 0, 0)
	wantStep(t, "the dot at the last point", pictureOf(1, 3, 0, 0, 1), true, 1, 0, 0)
}

func TestSwapStepWithoutADotOrAVoid(t *testing.T) {
	wantStep(t, "one void", pictureOf(1, 1, 0), false, 0)
	wantStep(t, "one dot", pictureOf(1, 1, 1), false, 1)
	for _, size := range [][2]int{{2, 1}, {1, 3}, {5, 3}, {16, 16}, {64, 4}, {4, 64}} {
		points := size[0] * size[1]
		for _, dots := range []int{0, points} {
			field := filledPlate(size[0], size[1], dots)
			got, ok := impl.SwapStep(field)
			wantUnchanged(t, "a step with "+number(dots)+" dots, "+sizeName(size[0], size[1]), got, ok, field)
		}
	}
}

func TestSwapStepOfNoField(t *testing.T) {
	for _, s := range badFields() {
		got, ok := impl.SwapStep(s.picture)
		wantUnchanged(t, "a step of "+s.name, got, ok, s.picture)
	}
}

func TestSwapStep(t *testing.T) {
	for _, s := range allFields() {
		table := weightTable(s.picture.Width, s.picture.Height)
		want, moved := swappedByTable(table, s.picture.Ink)
		wantStep(t, s.name, s.picture, moved, want...)
	}
}

// TestSwapStepMovesOneDot asks what a step keeps and what it changes.
func TestSwapStepMovesOneDot(t *testing.T) {
	for _, s := range allFields() {
		got, moved := impl.SwapStep(s.picture)
		changes := 0
		for i, ink := range got.Ink {
			if ink != s.picture.Ink[i] {
				changes++
			}
		}
		want := 0
		if moved {
			want = 2
			wantInt(t, "the tightest dot after a step of "+s.name, got.Ink[impl.TightestDot(s.picture)], 0)
		}
		wantInt(t, "the changes of "+s.name, changes, want)
		wantInt(t, "the dots of "+s.name, impl.SumInk(got), impl.SumInk(s.picture))
	}
}

func wantEven(t *testing.T, what string, p impl.Picture, most, steps int, want ...int) {
	t.Helper()
	what += " with at most " + number(most) + " steps"
	got, count := impl.EvenField(p, most)
	wantPicture(t, what, got, pictureOf(p.Width, p.Height, want...))
	wantInt(t, "the steps of "+what, count, steps)
}

func TestEvenFieldExamples(t *testing.T) {
	wantEven(t, "a void and a dot", pictureOf(2, 1, 0, 1), 5, 1, 1, 0)
	wantEven(t, "a void and a dot", pictureOf(2, 1, 0, 1), 1, 1, 1, 0)
	wantEven(t, "a void and a dot", pictureOf(2, 1, 0, 1), 0, 0, 0, 1)
	wantEven(t, "two dots and two voids", pictureOf(4, 1, 1, 1, 0, 0), 64, 1, 0, 1, 0, 1)
	wantEven(t, "an even field", pictureOf(4, 1, 1, 0, 1, 0), 64, 0, 1, 0, 1, 0)
	wantEven(t, "one void", pictureOf(1, 1, 0), 64, 0, 0)
	wantEven(t, "one dot", pictureOf(1, 1, 1), 64, 0, 1)
	wantEven(t, "no dots", filledPlate(3, 1, 0), 64, 0, 0, 0, 0)
	wantEven(t, "dots only", filledPlate(3, 1, 3), 64, 0, 1, 1, 1)
}

func TestEvenField(t *testing.T) {
	for _, s := range goodFields() {
		table := weightTable(s.picture.Width, s.picture.Height)
		for _, most := range []int{0, 1, 2, 3, 10, 63, 64} {
			want, steps := evenedByTable(table, s.picture.Ink, most)
			wantEven(t, s.name, s.picture, most, steps, want...)
		}
	}
}

func TestEvenFieldOfSmallFields(t *testing.T) {
	for _, s := range smallFields() {
		table := weightTable(s.picture.Width, s.picture.Height)
		for _, most := range []int{1, 64} {
			want, steps := evenedByTable(table, s.picture.Ink, most)
			wantEven(t, s.name, s.picture, most, steps, want...)
		}
	}
}

// TestEvenFieldThatEndsAheadOfTheLimit: where no step is left, a higher limit changes nothing.
func TestEvenFieldThatEndsAheadOfTheLimit(t *testing.T) {
	for _, s := range allFields() {
		even, steps := impl.EvenField(s.picture, 64)
		if steps == 64 {
			continue
		}
		_, moved := impl.SwapStep(even)
		wantBool(t, "a step is left of "+s.name, moved, false)
		again, count := impl.EvenField(s.picture, steps)
		wantPicture(t, s.name+" with just enough steps", again, even)
		wantInt(t, "just enough steps of "+s.name, count, steps)
	}
}

// TestEvenFieldThatIsCutOff has a field that needs more steps than there may be.
func TestEvenFieldThatIsCutOff(t *testing.T) {
	field := filledPlate(16, 16, 128)
	want := field
	for most := range 65 {
		even, steps := impl.EvenField(field, most)
		wantPicture(t, "after "+number(most)+" steps", even, want)
		wantInt(t, "the steps of at most "+number(most), steps, most)
		next, moved := impl.SwapStep(want)
		wantBool(t, "a step is left after "+number(most), moved, true)
		want = next
	}
}

func TestEvenFieldOfNoLimit(t *testing.T) {
	for _, s := range goodFields() {
		for _, most := range []int{math.MinInt, math.MinInt + 1, -1 << 32, -64, -2, -1, 65, 66, 256, 1 << 32, math.MaxInt - 1, math.MaxInt} {
			wantEven(t, s.name, s.picture, most, 0, s.picture.Ink...)
		}
	}
}

func TestEvenFieldOfNoField(t *testing.T) {
	for _, s := range badFields() {
		for _, most := range append([]int{5}, extremes...) {
			wantEven(t, s.name, s.picture, most, 0, s.picture.Ink...)
		}
	}
}
