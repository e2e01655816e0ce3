package tests

import (
	"testing"

	"loop.example/g03229/impl"
)

type namedStack struct {
	name   string
	plates []impl.Picture
}

func stackOf(plates ...impl.Picture) []impl.Picture {
	return plates
}

// turnedNoise has other dots than noisePicture, so that the two over each other have all four marks.
func turnedNoise(width, height int) impl.Picture {
	return impl.TurnPicture(noisePicture(height, width, 1))
}

// goodStacks holds stacks of every number of plates and of every kind of size.
func goodStacks() []namedStack {
	uneven := noisePicture(5, 4, 1)
	wide := []impl.Picture{noisePicture(64, 16, 1), turnedNoise(64, 16), filledPlate(64, 16, 500), filledPlate(64, 16, 1)}
	return []namedStack{
		{"a void", stackOf(pictureOf(1, 1, 0))},
		{"a dot", stackOf(pictureOf(1, 1, 1))},
		{"four points over each other", stackOf(pictureOf(1, 1, 1), pictureOf(1, 1, 0), pictureOf(1, 1, 1), pictureOf(1, 1, 1))},
		{"one uneven plate", stackOf(uneven)},
		{"a plate and its negative", stackOf(uneven, impl.NegativePicture(uneven))},
		{"a plate twice", stackOf(uneven, uneven)},
		{"a plate four times", stackOf(uneven, uneven, uneven, uneven)},
		{"two rows", stackOf(pictureOf(4, 1, 1, 1, 0, 0), pictureOf(4, 1, 1, 0, 1, 0))},
		{"three columns", stackOf(pictureOf(1, 3, 1, 1, 0), pictureOf(1, 3, 1, 0, 1), pictureOf(1, 3, 0, 1, 1))},
		{"three plates", stackOf(noisePicture(7, 6, 1), turnedNoise(7, 6), filledPlate(7, 6, 20))},
		{"four plates", stackOf(noisePicture(9, 11, 1), turnedNoise(9, 11), filledPlate(9, 11, 50), filledPlate(9, 11, 75))},
		{"no dots", stackOf(filledPlate(3, 2, 0), filledPlate(3, 2, 0), filledPlate(3, 2, 0))},
		{"dots only", stackOf(filledPlate(3, 2, 6), filledPlate(3, 2, 6), filledPlate(3, 2, 6), filledPlate(3, 2, 6))},
		{"dots on the last plate only", stackOf(filledPlate(3, 2, 0), filledPlate(3, 2, 0), filledPlate(3, 2, 0), filledPlate(3, 2, 6))},
		{"the longest rows", stackOf(noisePicture(64, 1, 1), turnedNoise(64, 1))},
		{"the longest columns", stackOf(noisePicture(1, 64, 1), turnedNoise(1, 64))},
		{"the widest area", wide},
		{"the square area", stackOf(noisePicture(32, 32, 1), turnedNoise(32, 32), filledPlate(32, 32, 1024))},
	}
}

// smallStacks has all stacks of some sizes and numbers of plates.
func smallStacks() []namedStack {
	var stacks []namedStack
	for _, shape := range [][3]int{{1, 1, 1}, {3, 2, 1}, {2, 2, 2}, {1, 4, 2}, {2, 1, 3}, {1, 3, 3}, {1, 1, 4}, {2, 1, 4}} {
		points := shape[0] * shape[1]
		for digits := range 1 << (points * shape[2]) {
			stack := namedStack{name: sizeName(shape[0], shape[1]) + " with the digits of " + number(digits)}
			for k := range shape[2] {
				stack.plates = append(stack.plates, plateOfDigits(shape[0], shape[1], digits>>(k*points)))
			}
			stacks = append(stacks, stack)
		}
	}
	return stacks
}

func allStacks() []namedStack {
	return append(goodStacks(), smallStacks()...)
}

// plateOfDigits has dots where the lowest digits are 1.
func plateOfDigits(width, height, digits int) impl.Picture {
	plate := filledPlate(width, height, 0)
	for i := range plate.Ink {
		plate.Ink[i] = digits >> i & 1
	}
	return plate
}

// platesOfSize has all plates of a size.
func platesOfSize(width, height int) []impl.Picture {
	var plates []impl.Picture
	for digits := range 1 << (width * height) {
		plates = append(plates, plateOfDigits(width, height, digits))
	}
	return plates
}

// badPlates holds what is no picture, and pictures that are no plates.
func badPlates() []namedPicture {
	return append(append(badPictures(), goodPictures()...), []namedPicture{
		{"an amount of 2", pictureOf(2, 2, 0, 1, 2, 1)},
		{"a first amount of 2", pictureOf(2, 1, 2, 0)},
		{"a last amount of 2", pictureOf(1, 3, 0, 1, 2)},
		{"a last amount of -1", pictureOf(1, 3, 0, 1, -1)},
		{"dots of 255", pictureOf(3, 1, 0, 255, 0)},
		{"a row with one point too many", filledPlate(65, 1, 3)},
		{"a column with one point too many", filledPlate(1, 65, 3)},
		{"an area with one point too many", filledPlate(41, 25, 7)},
		{"a list with one point too many", pictureOf(3, 2, 1, 0, 1, 0, 1, 0, 1)},
		{"a list with one point too few", pictureOf(3, 2, 1, 0, 1, 0, 1)},
	}...)
}

// badStacks holds lists that are no stacks: too short or too long, with a bad plate in some place, or of different sizes.
func badStacks() []namedStack {
	dots := filledPlate(2, 2, 3)
	stacks := []namedStack{
		{"nil", nil},
		{"no plates", []impl.Picture{}},
		{"five plates", stackOf(dots, dots, dots, dots, dots)},
		{"five points", stackOf(pictureOf(1, 1, 1), pictureOf(1, 1, 1), pictureOf(1, 1, 1), pictureOf(1, 1, 1), pictureOf(1, 1, 1))},
		{"many plates", make([]impl.Picture, 100)},
		{"sixty-four plates", append(make([]impl.Picture, 63), dots)},
		{"exchanged sides", stackOf(filledPlate(3, 2, 2), filledPlate(2, 3, 2))},
		{"a row and a column", stackOf(filledPlate(4, 1, 2), filledPlate(1, 4, 2))},
		{"a square and a row", stackOf(dots, filledPlate(4, 1, 2))},
		{"a lower plate", stackOf(filledPlate(2, 3, 2), filledPlate(2, 2, 2))},
		{"a narrower plate", stackOf(filledPlate(3, 2, 2), filledPlate(2, 2, 2))},
		{"a larger plate", stackOf(filledPlate(2, 2, 2), filledPlate(3, 3, 2))},
		{"the last one of four larger", stackOf(dots, dots, dots, filledPlate(2, 3, 2))},
		{"the last two of four larger", stackOf(dots, dots, filledPlate(2, 3, 2), filledPlate(2, 3, 2))},
	}
	for _, s := range badPlates() {
		other := filledPlate(1, 1, 1)
		if isSizeOfPicture(s.picture.Width, s.picture.Height) {
			other = filledPlate(s.picture.Width, s.picture.Height, 1)
		}
		stacks = append(stacks, []namedStack{
			{s.name + " alone", stackOf(s.picture)},
			{s.name + " twice", stackOf(s.picture, s.picture)},
			{s.name + " first", stackOf(s.picture, other)},
			{s.name + " last", stackOf(other, other, other, s.picture)},
		}...)
	}
	return stacks
}

// allPlates has plates of every kind, and all of some small sizes.
func allPlates() []namedPicture {
	return append(append(goodPlates(), allFields()...), []namedPicture{
		{"one dot in a corner", filledPlate(6, 5, 1)},
		{"one dot in the last corner", impl.MirrorPicture(impl.TurnPicture(filledPlate(6, 5, 1)))},
		{"the widest area", turnedNoise(64, 16)},
		{"the widest area with dots only", filledPlate(64, 16, 1024)},
		{"the square area without a dot", filledPlate(32, 32, 0)},
		{"the square area, half of it dots", filledPlate(32, 32, 512)},
		{"a high area", noisePicture(25, 40, 1)},
	}...)
}

// markByPlates asks each plate for the point, from the last one on.
func markByPlates(l []impl.Picture, x, y int) int {
	mark := 0
	for k := len(l) - 1; k >= 0; k-- {
		mark = 2*mark + impl.InkAt(l[k], x, y)
	}
	return mark
}

// marksByPlates has the marks of all points, row by row.
func marksByPlates(l []impl.Picture) []int {
	var marks []int
	for y := range l[0].Height {
		for x := range l[0].Width {
			marks = append(marks, markByPlates(l, x, y))
		}
	}
	return marks
}

// numbersOfMarks has one number for each mark of a stack with this many plates.
func numbersOfMarks(plates int) int {
	return []int{1, 2, 4, 8, 16}[plates]
}

// roomyStack has plates with lists of their own, and spare capacity behind the list of plates and behind each plate.
func roomyStack(l []impl.Picture) []impl.Picture {
	room := make([]impl.Picture, len(l)+spare)
	for i := range room {
		if i < len(l) {
			room[i] = roomyCopy(l[i])
		} else {
			room[i].Width = untouched
		}
	}
	return room[:len(l)]
}

// wantUntouchedStack asks whether a roomyStack of l is still as it was made.
func wantUntouchedStack(t *testing.T, what string, room, l []impl.Picture) {
	t.Helper()
	wantInt(t, what+": the number of plates", len(room), len(l))
	for i := range room {
		wantUntouched(t, what+": the plate "+number(i), room[i], l[i])
	}
	for _, p := range room[len(l) : len(l)+spare] {
		wantPicture(t, what+": the capacity behind the plates", p, impl.Picture{Width: untouched})
	}
}

// roomyList is roomyCopy for a list alone.
func roomyList(list []int) []int {
	return roomyCopy(impl.Picture{Ink: list}).Ink
}

func wantUntouchedList(t *testing.T, what string, room, list []int) {
	t.Helper()
	wantUntouched(t, what, impl.Picture{Ink: room}, impl.Picture{Ink: list})
}
