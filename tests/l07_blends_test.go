package tests

import (
	"math"
	"slices"
	"testing"

	"loop.example/g03229/impl"
)

func wantBlend(t *testing.T, what string, l []impl.Picture, colors []int, wantSum, wantPoints int) {
	t.Helper()
	sum, points, ok := impl.BlendOf(l, colors)
	if !ok || sum != wantSum || points != wantPoints {
		t.Errorf("the blend of %s: got %d, %d, %v, want %d, %d, true", what, sum, points, ok, wantSum, wantPoints)
	}
}

func wantNoBlend(t *testing.T, what string, l []impl.Picture, colors []int) {
	t.Helper()
	sum, points, ok := impl.BlendOf(l, colors)
	if ok || sum != 0 || points != 0 {
		t.Errorf("the blend of %s: got %d, %d, %v, want 0, 0, false", what, sum, points, ok)
	}
}

// blendByPoints adds the colors of the points, and divides by each common divisor that it finds.
func blendByPoints(l []impl.Picture, colors []int) (int, int) {
	sum, points := 0, 0
	for _, mark := range marksByPlates(l) {
		sum += colors[mark]
		points++
	}
	for divisor := points; divisor > 1; divisor-- {
		if sum%divisor == 0 && points%divisor == 0 {
			sum, points = sum/divisor, points/divisor
		}
	}
	return sum, points
}

// someColors has lists with one color for each mark.
func someColors(plates int) [][]int {
	marks := numbersOfMarks(plates)
	counted, mixed, last := make([]int, marks), make([]int, marks), make([]int, marks)
	for mark := range marks {
		counted[mark] = mark
		mixed[mark] = (mark*748193 + 999331) % 1000001
	}
	last[marks-1] = 1000000
	return [][]int{
		counted, mixed, last,
		make([]int, marks), slices.Repeat([]int{1}, marks), slices.Repeat([]int{12}, marks), slices.Repeat([]int{1000000}, marks),
	}
}

func TestBlendOfExamples(t *testing.T) {
	rows := stackOf(pictureOf(4, 1, 1, 1, 0, 0), pictureOf(4, 1, 1, 0, 1, 0))
	wantBlend(t, "two rows", rows, []int{0, 10, 20, 30}, 15, 1)
	wantBlend(t, "two rows with one color", rows, []int{0, 0, 0, 1}, 1, 4)
	wantBlend(t, "two rows with two colors", rows, []int{0, 1, 0, 1}, 1, 2)
	wantBlend(t, "two rows with an odd sum", rows, []int{1, 2, 3, 5}, 11, 4)
	wantBlend(t, "two rows without a color", rows, []int{0, 0, 0, 0}, 0, 1)
	wantBlend(t, "a void", stackOf(pictureOf(1, 1, 0)), []int{7, 9}, 7, 1)
	wantBlend(t, "a dot", stackOf(pictureOf(1, 1, 1)), []int{7, 9}, 9, 1)
	wantBlend(t, "the color that does not occur", stackOf(filledPlate(3, 2, 0)), []int{0, 1000000}, 0, 1)
	wantBlend(t, "three of six", stackOf(filledPlate(3, 2, 3)), []int{0, 5}, 5, 2)
	wantBlend(t, "four of six", stackOf(filledPlate(3, 2, 4)), []int{1, 5}, 11, 3)
	full := filledPlate(32, 32, 1024)
	colors := make([]int, 16)
	colors[15] = 1000000
	wantBlend(t, "the greatest sum", stackOf(full, full, full, full), colors, 1000000, 1)
	wantBlend(t, "nearly the greatest sum", stackOf(filledPlate(32, 32, 1023)), []int{999999, 1000000}, 1023999999, 1024)
}

func TestBlendOf(t *testing.T) {
	for _, s := range allStacks() {
		for _, colors := range someColors(len(s.plates)) {
			sum, points := blendByPoints(s.plates, colors)
			wantBlend(t, s.name, s.plates, colors, sum, points)
		}
	}
}

func TestBlendWhoseSumIsZero(t *testing.T) {
	for _, s := range allStacks() {
		counts := impl.MarkCounts(s.plates)
		colors := make([]int, len(counts))
		wantBlend(t, s.name+" without a color", s.plates, colors, 0, 1)
		for mark, count := range counts {
			if count == 0 {
				colors[mark] = 1000000
			}
		}
		wantBlend(t, s.name+" with the colors that do not occur", s.plates, colors, 0, 1)
	}
}

// TestBlendOfOneColor: where all marks have the same color, the blend is that color.
func TestBlendOfOneColor(t *testing.T) {
	for _, s := range goodStacks() {
		for _, color := range []int{0, 1, 2, 3, 255, 999999, 1000000} {
			colors := slices.Repeat([]int{color}, numbersOfMarks(len(s.plates)))
			wantBlend(t, s.name, s.plates, colors, color, 1)
		}
	}
}

func TestBlendOfBadColors(t *testing.T) {
	bad := []int{math.MinInt, math.MinInt + 1, -1 << 32, -1000000, -2, -1, 1000001, 1000002, 1 << 32, math.MaxInt - 1, math.MaxInt}
	for _, s := range goodStacks() {
		for place := range numbersOfMarks(len(s.plates)) {
			for _, color := range bad {
				colors := slices.Repeat([]int{3}, numbersOfMarks(len(s.plates)))
				colors[place] = color
				wantNoBlend(t, s.name+" with the color "+number(color)+" at "+number(place), s.plates, colors)
			}
		}
	}
}

func TestBlendWithTooFewOrTooManyColors(t *testing.T) {
	for _, s := range goodStacks() {
		for count := range 40 {
			if count != numbersOfMarks(len(s.plates)) {
				wantNoBlend(t, s.name+" with "+number(count)+" colors", s.plates, make([]int, count))
			}
		}
		wantNoBlend(t, s.name+" with no list of colors", s.plates, nil)
		wantNoBlend(t, s.name+" with one bad color too many", s.plates, append(make([]int, numbersOfMarks(len(s.plates))), -1))
	}
}

// multiplyByPairs counts pairs of a point of a and one of b with dots: there are as many as dots of a times dots of b.
func multiplyByPairs(a, b impl.Picture) bool {
	both, pairs := 0, 0
	for i := range a.Ink {
		both += a.Ink[i] & b.Ink[i]
		for k := range b.Ink {
			pairs += a.Ink[i] & b.Ink[k]
		}
	}
	return both*len(a.Ink) == pairs
}

func wantMultiply(t *testing.T, what string, a, b impl.Picture, want bool) {
	t.Helper()
	wantBool(t, "the shares of "+what+" multiply", impl.SharesMultiply(a, b), want)
	wantBool(t, "the shares of "+what+" multiply the other way", impl.SharesMultiply(b, a), want)
}

func TestSharesMultiplyExamples(t *testing.T) {
	a := pictureOf(4, 1, 1, 1, 0, 0)
	wantMultiply(t, "halves that cross", a, pictureOf(4, 1, 1, 0, 1, 0), true)
	wantMultiply(t, "halves that cross at the end", a, pictureOf(4, 1, 0, 1, 0, 1), true)
	wantMultiply(t, "a half and itself", a, a, false)
	wantMultiply(t, "a half and the other half", a, pictureOf(4, 1, 0, 0, 1, 1), false)
	wantMultiply(t, "a half and a quarter", a, filledPlate(4, 1, 1), false)
	wantMultiply(t, "a half and no dots", a, filledPlate(4, 1, 0), true)
	wantMultiply(t, "a half and dots only", a, filledPlate(4, 1, 4), true)
	wantMultiply(t, "two points", pictureOf(1, 1, 1), pictureOf(1, 1, 1), true)
	wantMultiply(t, "a point and a void", pictureOf(1, 1, 1), pictureOf(1, 1, 0), true)
	wantMultiply(t, "a third and a half of six", pictureOf(6, 1, 1, 1, 0, 0, 0, 0), pictureOf(6, 1, 1, 0, 1, 1, 0, 0), true)
	wantMultiply(t, "a third and a half of six, apart", pictureOf(6, 1, 1, 1, 0, 0, 0, 0), pictureOf(6, 1, 0, 0, 1, 1, 1, 0), false)
	wantMultiply(t, "all dots of the largest plates", filledPlate(32, 32, 1024), filledPlate(32, 32, 1024), true)
	wantMultiply(t, "all dots but one of the largest plates", filledPlate(32, 32, 1023), filledPlate(32, 32, 1023), false)
}

func TestSharesMultiply(t *testing.T) {
	for _, size := range [][2]int{{1, 1}, {2, 1}, {1, 3}, {4, 1}, {2, 2}, {1, 5}, {3, 2}} {
		for _, a := range platesOfSize(size[0], size[1]) {
			for _, b := range platesOfSize(size[0], size[1]) {
				wantBool(t, sizeName(size[0], size[1]), impl.SharesMultiply(a, b), multiplyByPairs(a, b))
			}
		}
	}
	for _, s := range goodStacks() {
		for _, b := range s.plates {
			wantBool(t, s.name, impl.SharesMultiply(s.plates[0], b), multiplyByPairs(s.plates[0], b))
		}
	}
}

// TestSharesMultiplyOfNoPlates has numbers of dots that would multiply.
func TestSharesMultiplyOfNoPlates(t *testing.T) {
	wantMultiply(t, "zero values", impl.Picture{}, impl.Picture{}, false)
	wantMultiply(t, "different sizes without a dot", filledPlate(3, 2, 0), filledPlate(2, 3, 0), false)
	wantMultiply(t, "different sizes with dots only", filledPlate(4, 1, 4), filledPlate(2, 2, 4), false)
	wantMultiply(t, "a row and a column", pictureOf(4, 1, 1, 1, 0, 0), pictureOf(1, 4, 1, 0, 1, 0), false)
	wantMultiply(t, "a longer row", filledPlate(3, 1, 0), filledPlate(4, 1, 0), false)
	for _, s := range badPlates() {
		wantMultiply(t, s.name+" and itself", s.picture, s.picture, false)
		wantMultiply(t, s.name+" and a void", s.picture, filledPlate(1, 1, 0), false)
		if isSizeOfPicture(s.picture.Width, s.picture.Height) {
			empty := filledPlate(s.picture.Width, s.picture.Height, 0)
			wantMultiply(t, s.name+" and no dots", s.picture, empty, false)
		}
	}
}

func wantCross(t *testing.T, what string, rows, columns []int, first, second []int) {
	t.Helper()
	got, ok := impl.CrossPlates(rows, columns)
	wantBool(t, what, ok, true)
	if len(got) != 2 {
		t.Errorf("%s: got %d plates, want 2", what, len(got))
		return
	}
	wantPicture(t, what+": the first plate", got[0], pictureOf(len(columns), len(rows), first...))
	wantPicture(t, what+": the second plate", got[1], pictureOf(len(columns), len(rows), second...))
}

func wantNoCross(t *testing.T, what string, rows, columns []int) {
	t.Helper()
	got, ok := impl.CrossPlates(rows, columns)
	if ok || len(got) != 0 {
		t.Errorf("%s: got %v, %v, want no plates and false", what, got, ok)
	}
}

// crossByRepeating lays the row of columns below itself, and each element of rows beside itself.
func crossByRepeating(rows, columns []int) (first, second []int) {
	for _, row := range rows {
		first = append(first, columns...)
		second = append(second, slices.Repeat([]int{row}, len(columns))...)
	}
	return first, second
}

func TestCrossPlatesExamples(t *testing.T) {
	wantCross(t, "two rows and three columns", []int{1, 0}, []int{1, 1, 0}, []int{1, 1, 0, 1, 1, 0}, []int{1, 1, 1, 0, 0, 0})
	wantCross(t, "three rows and two columns", []int{0, 1, 1}, []int{0, 1}, []int{0, 1, 0, 1, 0, 1}, []int{0, 0, 1, 1, 1, 1})
	wantCross(t, "one point with two dots", []int{1}, []int{1}, []int{1}, []int{1})
	wantCross(t, "one point with a dot of the row", []int{1}, []int{0}, []int{0}, []int{1})
	wantCross(t, "one point with a dot of the column", []int{0}, []int{1}, []int{1}, []int{0})
	wantCross(t, "one row", []int{1}, []int{0, 1, 0}, []int{0, 1, 0}, []int{1, 1, 1})
	wantCross(t, "one column", []int{0, 1, 0}, []int{1}, []int{1, 1, 1}, []int{0, 1, 0})
}

func TestCrossPlates(t *testing.T) {
	for height := 1; height <= 4; height++ {
		for _, rows := range platesOfSize(1, height) {
			for width := 1; width <= 5; width++ {
				for _, columns := range platesOfSize(width, 1) {
					first, second := crossByRepeating(rows.Ink, columns.Ink)
					wantCross(t, sizeName(width, height), rows.Ink, columns.Ink, first, second)
				}
			}
		}
	}
}

func TestCrossPlatesOfEachSize(t *testing.T) {
	for width := range 67 {
		for height := range 67 {
			rows, columns := filledPlate(1, height, height/2).Ink, filledPlate(width, 1, width/3).Ink
			if !isSizeOfPicture(width, height) {
				wantNoCross(t, sizeName(width, height), rows, columns)
				continue
			}
			first, second := crossByRepeating(rows, columns)
			wantCross(t, sizeName(width, height), rows, columns, first, second)
		}
	}
}

func TestSharesOfCrossPlatesMultiply(t *testing.T) {
	for _, size := range [][2]int{{1, 1}, {1, 5}, {5, 1}, {4, 3}, {7, 9}, {64, 16}, {16, 64}, {32, 32}, {41, 24}} {
		for seed := range 20 {
			rows, columns := noisePicture(1, size[1]+seed, 1).Ink[seed:], noisePicture(size[0]+seed, 1, 1).Ink[seed:]
			plates, ok := impl.CrossPlates(rows, columns)
			wantBool(t, sizeName(size[0], size[1]), ok && impl.IsStack(plates), true)
			wantMultiply(t, sizeName(size[0], size[1]), plates[0], plates[1], true)
			wantInt(t, "the dots of columns", impl.SumInk(plates[0]), sumOfInts(columns)*size[1])
			wantInt(t, "the dots of rows", impl.SumInk(plates[1]), sumOfInts(rows)*size[0])
		}
	}
}

func TestCrossPlatesWithoutRowsOrColumns(t *testing.T) {
	wantNoCross(t, "nothing", nil, nil)
	wantNoCross(t, "no rows", nil, []int{1})
	wantNoCross(t, "no columns", []int{1}, nil)
	wantNoCross(t, "empty rows", []int{}, []int{1, 0})
	wantNoCross(t, "empty columns", []int{1, 0}, []int{})
	wantNoCross(t, "many rows and no columns", make([]int, 100000), nil)
	wantNoCross(t, "many columns and no rows", nil, make([]int, 100000))
	wantNoCross(t, "many rows and columns", make([]int, 100000), make([]int, 100000))
}

func TestCrossPlatesWithOtherElements(t *testing.T) {
	for _, element := range extremes {
		if element == 0 || element == 1 {
			continue
		}
		for place := range 3 {
			list := []int{1, 0, 1}
			list[place] = element
			wantNoCross(t, "a row with "+number(element), list, []int{1, 0})
			wantNoCross(t, "a column with "+number(element), []int{1, 0}, list)
			wantNoCross(t, "a row and a column with "+number(element), list, list)
		}
	}
}
