package tests

import (
	"math"
	"slices"
	"strings"
	"testing"

	"loop.example/g03229/impl"
)

// runsBySplitting writes the amounts down and cuts the text between runs.
func runsBySplitting(p impl.Picture) []int {
	var digits strings.Builder
	for _, ink := range p.Ink {
		digits.WriteString(number(ink))
	}
	cut := strings.ReplaceAll(strings.ReplaceAll(digits.String(), "01", "0,1"), "10", "1,0")
	var runs []int
	if p.Ink[0] == 1 {
		runs = append(runs, 0)
	}
	for _, run := range strings.Split(cut, ",") {
		runs = append(runs, len(run))
	}
	return runs
}

func wantRuns(t *testing.T, what string, p impl.Picture, want ...int) {
	t.Helper()
	wantInts(t, "the runs of "+what, impl.RunsOf(p), want...)
	got, ok := impl.PlateOfRuns(p.Width, p.Height, want)
	wantPictureOk(t, "the plate of the runs of "+what, got, ok, p)
}

func wantNoRuns(t *testing.T, width, height int, runs ...int) {
	t.Helper()
	got, ok := impl.PlateOfRuns(width, height, runs)
	what := "the plate of many runs"
	if len(runs) < 20 {
		what = "the plate of the runs"
		for _, run := range runs {
			what += " " + number(run)
		}
	}
	wantRefused(t, what+", "+sizeName(width, height), got, ok)
}

func TestRunsExamples(t *testing.T) {
	wantRuns(t, "a void", pictureOf(1, 1, 0), 1)
	wantRuns(t, "a dot", pictureOf(1, 1, 1), 0, 1)
	wantRuns(t, "two dots and a void", pictureOf(3, 1, 1, 1, 0), 0, 2, 1)
	wantRuns(t, "two voids and a dot", pictureOf(1, 3, 0, 0, 1), 2, 1)
	wantRuns(t, "a void, a dot and a void", pictureOf(3, 1, 0, 1, 0), 1, 1, 1)
	wantRuns(t, "a dot, a void and a dot", pictureOf(1, 3, 1, 0, 1), 0, 1, 1, 1)
	wantRuns(t, "a run that goes on in the next row", pictureOf(3, 2, 0, 0, 1, 1, 1, 0), 2, 3, 1)
	wantRuns(t, "rows of one run each", pictureOf(2, 3, 1, 1, 0, 0, 1, 1), 0, 2, 2, 2)
	wantRuns(t, "a chessboard", pictureOf(2, 2, 0, 1, 1, 0), 1, 2, 1)
	wantRuns(t, "no dots", filledPlate(32, 32, 0), 1024)
	wantRuns(t, "dots only", filledPlate(64, 16, 1024), 0, 1024)
	wantRuns(t, "the last dot only", impl.NegativePicture(filledPlate(64, 16, 1023)), 1023, 1)
	wantRuns(t, "the last void only", filledPlate(64, 16, 1023), 0, 1023, 1)
}

func TestRunsOfNoPlate(t *testing.T) {
	for _, s := range badPlates() {
		wantInts(t, s.name, impl.RunsOf(s.picture))
	}
}

// The tests that follow are those of the runs of promise P7.

func TestRuns(t *testing.T) {
	for _, s := range allPlates() {
		wantRuns(t, s.name, s.picture, runsBySplitting(s.picture)...)
	}
}

func TestRunsOfOneWayAndBack(t *testing.T) {
	for _, s := range allPlates() {
		runs := impl.RunsOf(s.picture)
		wantInt(t, "the points of "+s.name, sumOfInts(runs), len(s.picture.Ink))
		dots := 0
		for k, run := range runs {
			if k > 0 && run < 1 {
				t.Errorf("%s: the run %d is %d", s.name, k, run)
			}
			dots += k % 2 * run
		}
		wantInt(t, "the dots of "+s.name, dots, impl.SumInk(s.picture))
		back, ok := impl.PlateOfRuns(s.picture.Width, s.picture.Height, runs)
		wantPictureOk(t, s.name+" and back", back, ok, s.picture)
	}
}

// TestRunsWithTheMostRuns has dots and voids by turns.
func TestRunsWithTheMostRuns(t *testing.T) {
	for _, first := range []int{0, 1} {
		plate := filledPlate(32, 32, 0)
		want := []int{0}[:first]
		for i := range plate.Ink {
			plate.Ink[i] = (i + first) % 2
			want = append(want, 1)
		}
		wantRuns(t, "dots and voids by turns", plate, want...)
	}
}

// TestPlateOfRunsOfEveryList tries all short lists: a list has a plate if there is one among all plates of the size.
func TestPlateOfRunsOfEveryList(t *testing.T) {
	for _, size := range [][2]int{{1, 1}, {2, 1}, {1, 3}, {2, 2}, {4, 1}} {
		plates := platesOfSize(size[0], size[1])
		lists := [][]int{nil}
		for length := range 6 {
			var longer [][]int
			for _, list := range lists {
				wantPlateAmong(t, plates, size, list)
				for run := -1; run <= 5 && length < 5; run++ {
					longer = append(longer, append(slices.Clone(list), run))
				}
			}
			lists = longer
		}
	}
}

func wantPlateAmong(t *testing.T, plates []impl.Picture, size [2]int, list []int) {
	t.Helper()
	for _, plate := range plates {
		if slices.Equal(runsBySplitting(plate), list) {
			got, ok := impl.PlateOfRuns(size[0], size[1], list)
			wantPictureOk(t, "a list of runs", got, ok, plate)
			return
		}
	}
	wantNoRuns(t, size[0], size[1], list...)
}

func TestPlateOfRunsWithZeros(t *testing.T) {
	wantNoRuns(t, 3, 1, 0)
	wantNoRuns(t, 3, 1, 0, 0)
	wantNoRuns(t, 3, 1, 0, 0, 3)
	wantNoRuns(t, 3, 1, 3, 0)
	wantNoRuns(t, 3, 1, 0, 3, 0)
	wantNoRuns(t, 3, 1, 1, 0, 2)
	wantNoRuns(t, 3, 1, 1, 1, 0, 1)
	wantNoRuns(t, 3, 1, 1, 2, 0, 0)
	wantNoRuns(t, 3, 1, make([]int, 100000)...)
	wantNoRuns(t, 3, 1, append([]int{3}, make([]int, 100000)...)...)
}

func TestPlateOfRunsThatAreNegative(t *testing.T) {
	wantNoRuns(t, 3, 1, -1, 4)
	wantNoRuns(t, 3, 1, -3)
	wantNoRuns(t, 3, 1, 4, -1)
	wantNoRuns(t, 3, 1, 2, -1, 2)
	wantNoRuns(t, 3, 1, 3, -1, 1)
	wantNoRuns(t, 3, 1, 0, -3, 6)
	wantNoRuns(t, 3, 1, math.MinInt)
	wantNoRuns(t, 3, 1, 3, math.MinInt)
	wantNoRuns(t, 3, 1, math.MinInt, math.MinInt, 3)
	wantNoRuns(t, 3, 1, 1, math.MinInt, math.MaxInt, 3)
}

func TestPlateOfRunsThatEndElsewhere(t *testing.T) {
	for _, s := range goodPlates() {
		width, height, runs := s.picture.Width, s.picture.Height, impl.RunsOf(s.picture)
		last := len(runs) - 1
		longer, shorter := slices.Clone(runs), slices.Clone(runs)
		longer[last]++
		shorter[last]--
		wantNoRuns(t, width, height, longer...)
		wantNoRuns(t, width, height, shorter...)
		wantNoRuns(t, width, height, runs[:last]...)
		wantNoRuns(t, width, height, append(slices.Clone(runs), 1)...)
		wantNoRuns(t, width, height, append(slices.Clone(runs), 0)...)
		wantNoRuns(t, width, height, append(shorter, 2)...)
	}
	wantNoRuns(t, 3, 1)
	wantNoRuns(t, 3, 1, 2)
	wantNoRuns(t, 3, 1, 1, 1)
	wantNoRuns(t, 3, 1, 4)
	wantNoRuns(t, 3, 1, 0, 4)
	wantNoRuns(t, 1, 1, slices.Repeat([]int{1}, 100000)...)
	wantNoRuns(t, 32, 32, slices.Repeat([]int{1}, 1025)...)
	wantNoRuns(t, 32, 32, slices.Repeat([]int{1}, 1023)...)
}

// TestPlateOfRunsWhoseSumDoesNotFit has sums that wrap, some of them to the number of points.
func TestPlateOfRunsWhoseSumDoesNotFit(t *testing.T) {
	wantNoRuns(t, 3, 1, math.MaxInt)
	wantNoRuns(t, 3, 1, math.MaxInt, math.MaxInt)
	wantNoRuns(t, 3, 1, math.MaxInt, math.MaxInt, 5)
	wantNoRuns(t, 4, 1, 6, math.MaxInt, math.MaxInt)
	wantNoRuns(t, 3, 1, 3, math.MaxInt, math.MaxInt, 2)
	wantNoRuns(t, 3, 1, 1, math.MaxInt, math.MaxInt, 4)
	wantNoRuns(t, 2, 1, 1, math.MaxInt)
	wantNoRuns(t, 4, 1, 1<<62, 1<<62, 1<<62, 1<<62, 4)
	wantNoRuns(t, 4, 1, 4, 1<<62, 1<<62, 1<<62, 1<<62)
	wantNoRuns(t, 4, 1, math.MinInt, math.MinInt, 4)
	wantNoRuns(t, 4, 1, 1<<32+4)
}

func TestPlateOfRunsOfEachSize(t *testing.T) {
	for width := -2; width <= 66; width++ {
		for height := -2; height <= 66; height++ {
			runs := []int{max(width*height-1, 0), 1}
			if !isSizeOfPicture(width, height) {
				wantNoRuns(t, width, height, runs...)
				wantNoRuns(t, width, height)
				continue
			}
			plate := filledPlate(width, height, 0)
			plate.Ink[width*height-1] = 1
			got, ok := impl.PlateOfRuns(width, height, runs)
			wantPictureOk(t, "the last dot, "+sizeName(width, height), got, ok, plate)
		}
	}
}

func TestPlateOfRunsOfNoSize(t *testing.T) {
	for _, width := range extremes {
		for _, height := range extremes {
			if !isSizeOfPicture(width, height) {
				wantNoRuns(t, width, height)
				wantNoRuns(t, width, height, 0)
				wantNoRuns(t, width, height, width*height)
				wantNoRuns(t, width, height, 0, width)
			}
		}
	}
}
