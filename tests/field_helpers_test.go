package tests

import (
	"slices"
	"testing"

	"loop.example/g03229/impl"
)

// filledPlate has dots at its first points.
func filledPlate(width, height, dots int) impl.Picture {
	plate := pictureOf(width, height, make([]int, width*height)...)
	for i := range dots {
		plate.Ink[i] = 1
	}
	return plate
}

// goodFields holds fields of every kind of size and of dots.
func goodFields() []namedPicture {
	negative := pictureOf(4, 4, slices.Repeat([]int{1}, 16)...)
	negative.Ink[6] = 0
	return []namedPicture{
		{"one void", pictureOf(1, 1, 0)},
		{"one dot", pictureOf(1, 1, 1)},
		{"a row", pictureOf(5, 1, 0, 1, 1, 0, 0)},
		{"a column", pictureOf(1, 5, 0, 1, 1, 0, 0)},
		{"a row of two", pictureOf(2, 1, 0, 1)},
		{"a field without a dot", filledPlate(5, 3, 0)},
		{"a field with dots only", filledPlate(5, 3, 15)},
		{"a field with one dot", pictureOf(4, 3, 0, 0, 0, 0, 0, 0, 1, 0, 0, 0, 0, 0)},
		{"a field with one void", negative},
		{"equal crowds", pictureOf(4, 4, 1, 0, 1, 0, 0, 1, 0, 1, 1, 0, 1, 0, 0, 1, 0, 1)},
		{"dots to the left", pictureOf(4, 3, 1, 1, 0, 0, 1, 1, 0, 0, 1, 1, 0, 0)},
		{"an uneven field", noisePicture(5, 4, 1)},
		{"an uneven field with odd sides", noisePicture(7, 9, 1)},
		{"the longest row", noisePicture(64, 1, 1)},
		{"the longest column", noisePicture(1, 64, 1)},
		{"nearly the most points", noisePicture(15, 17, 1)},
		{"the most points in a square", noisePicture(16, 16, 1)},
		{"the most points in width", noisePicture(64, 4, 1)},
		{"the most points in height", noisePicture(4, 64, 1)},
		{"the most points, without a dot", filledPlate(32, 8, 0)},
		{"the most points, with dots only", filledPlate(16, 16, 256)},
		{"the most points, half of them dots", filledPlate(16, 16, 128)},
	}
}

// badFields holds what is no picture, pictures that are no plates, and plates with too many points.
func badFields() []namedPicture {
	return append(append(badPictures(), goodPictures()...), []namedPicture{
		{"an amount of 2", pictureOf(2, 2, 0, 1, 2, 1)},
		{"a plate with fewest points above 256", filledPlate(43, 6, 100)},
		{"a high plate with fewest points above 256", filledPlate(6, 43, 100)},
		{"257 points in a row", filledPlate(257, 1, 3)},
		{"257 points in a column", filledPlate(1, 257, 3)},
		{"256 points with one more in the list", pictureOf(16, 16, make([]int, 257)...)},
		{"256 points with one less in the list", pictureOf(16, 16, make([]int, 255)...)},
		{"a plate of 17, 16", noisePicture(17, 16, 1)},
		{"a plate of the widest area", noisePicture(64, 16, 1)},
		{"a plate of the square area without a dot", filledPlate(32, 32, 0)},
	}...)
}

// smallFields has all fields of some sizes, so that crowds are equal in all ways there are.
func smallFields() []namedPicture {
	var fields []namedPicture
	for _, size := range [][2]int{{1, 1}, {2, 1}, {1, 3}, {4, 1}, {1, 5}, {6, 1}, {2, 2}, {3, 2}, {2, 4}, {3, 3}, {5, 2}} {
		points := size[0] * size[1]
		for digits := range 1 << points {
			field := filledPlate(size[0], size[1], 0)
			for i := range points {
				field.Ink[i] = digits >> i & 1
			}
			fields = append(fields, namedPicture{sizeName(size[0], size[1]) + " with the digits of " + number(digits), field})
		}
	}
	return fields
}

func allFields() []namedPicture {
	return append(goodFields(), smallFields()...)
}

// isSizeOfField says in other words than the program what a size is.
func isSizeOfField(width, height int) bool {
	return isSizeOfPicture(width, height) && width*height < 257
}

// weightByCopies looks for the point k in the copies of the field that lie around it.
func weightByCopies(width, height, i, k int) int {
	square := width*width + height*height
	for _, right := range []int{-width, 0, width} {
		for _, down := range []int{-height, 0, height} {
			across, below := k%width+right-i%width, k/width+down-i/width
			square = min(square, across*across+below*below)
		}
	}
	return 4096 / (1 + square)
}

// weightTable has a row for each point.
func weightTable(width, height int) [][]int {
	table := make([][]int, width*height)
	for i := range table {
		for k := range table {
			table[i] = append(table[i], weightByCopies(width, height, i, k))
		}
	}
	return table
}

func crowdByTable(table [][]int, ink []int, i int) int {
	crowd := 0
	for k, dot := range ink {
		crowd += dot * table[i][k]
	}
	return crowd
}

func crowdsByTable(table [][]int, ink []int) []int {
	crowds := make([]int, len(ink))
	for i := range ink {
		crowds[i] = crowdByTable(table, ink, i)
	}
	return crowds
}

// tightestByTable goes through the dots and keeps the first one with the greatest crowd so far.
func tightestByTable(table [][]int, ink []int) int {
	best, greatest := -1, -1
	for i, dot := range ink {
		if dot == 1 && crowdByTable(table, ink, i) > greatest {
			best, greatest = i, crowdByTable(table, ink, i)
		}
	}
	return best
}

// widestByTable goes through the voids from the last one, and so keeps the first one with the least crowd.
func widestByTable(table [][]int, ink []int) int {
	best, least := -1, 1<<40
	for i := len(ink) - 1; i >= 0; i-- {
		if ink[i] == 0 && crowdByTable(table, ink, i) <= least {
			best, least = i, crowdByTable(table, ink, i)
		}
	}
	return best
}

// swappedByTable makes a step of SwapStep.
func swappedByTable(table [][]int, ink []int) ([]int, bool) {
	from := tightestByTable(table, ink)
	if from < 0 || !slices.Contains(ink, 0) {
		return ink, false
	}
	swapped := slices.Clone(ink)
	swapped[from] = 0
	to := widestByTable(table, swapped)
	swapped[to] = 1
	return swapped, from != to
}

// evenedByTable makes as many steps as there are, at most most.
func evenedByTable(table [][]int, ink []int, most int) ([]int, int) {
	for steps := range most {
		next, moved := swappedByTable(table, ink)
		if !moved {
			return ink, steps
		}
		ink = next
	}
	return ink, most
}

// ranksByTable makes the ranks of RankField; those that are not set yet are -1.
func ranksByTable(table [][]int, ink []int) []int {
	ranks := slices.Repeat([]int{-1}, len(ink))
	emptied, filled := slices.Clone(ink), slices.Clone(ink)
	for slices.Contains(emptied, 1) {
		i := tightestByTable(table, emptied)
		emptied[i] = 0
		ranks[i] = countOf(emptied, 1)
	}
	for slices.Contains(filled, 0) {
		i := widestByTable(table, filled)
		ranks[i] = countOf(filled, 1)
		filled[i] = 1
	}
	return ranks
}

func countOf(list []int, wanted int) int {
	count := 0
	for _, number := range list {
		if number == wanted {
			count++
		}
	}
	return count
}

// wantUnchanged asks for the field that was given, beside a false.
func wantUnchanged(t *testing.T, what string, got impl.Picture, ok bool, p impl.Picture) {
	t.Helper()
	wantBool(t, what, ok, false)
	wantPicture(t, what, got, p)
}
