package tests

import (
	"math"
	"slices"
	"testing"

	"loop.example/g03229/impl"
)

// extremes are numbers at which a comparison, a product or a sum may go wrong.
var extremes = []int{
	math.MinInt, math.MinInt + 1, math.MinInt / 2, -1 << 32, -256, -65, -2, -1,
	0, 1, 2, 3, 63, 64, 65, 255, 256, 1024, 1 << 31, 1 << 32, math.MaxInt / 2, math.MaxInt - 1, math.MaxInt,
}

type namedPicture struct {
	name    string
	picture impl.Picture
}

func pictureOf(width, height int, ink ...int) impl.Picture {
	return impl.Picture{Width: width, Height: height, Ink: ink}
}

// noisePicture has amounts that follow no pattern of the rows, among them 0 and most when there is room for both.
func noisePicture(width, height, most int) impl.Picture {
	ink := make([]int, width*height)
	state := uint32(width*1000 + height*10 + most)
	for i := range ink {
		state = state*1664525 + 1013904223
		ink[i] = int(state>>8) % (most + 1)
	}
	ink[0] = most
	ink[len(ink)-1] = 0
	return impl.Picture{Width: width, Height: height, Ink: ink}
}

// goodPictures holds pictures of every kind of size and amount; none of them is a plate.
func goodPictures() []namedPicture {
	return []namedPicture{
		{"the least picture", pictureOf(1, 1, 77)},
		{"a full point", pictureOf(1, 1, 255)},
		{"a row", pictureOf(4, 1, 9, 8, 7, 6)},
		{"a column", pictureOf(1, 4, 9, 8, 7, 6)},
		{"a small picture", pictureOf(3, 2, 0, 1, 2, 253, 254, 255)},
		{"only empty and full points", pictureOf(2, 2, 0, 255, 255, 0)},
		{"an uneven picture", noisePicture(5, 4, 255)},
		{"the longest row", noisePicture(64, 1, 255)},
		{"the longest column", noisePicture(1, 64, 254)},
		{"the widest area", noisePicture(64, 16, 255)},
		{"the highest area", noisePicture(16, 64, 255)},
		{"the square area", noisePicture(32, 32, 200)},
	}
}

func goodPlates() []namedPicture {
	return []namedPicture{
		{"no dot", pictureOf(1, 1, 0)},
		{"a dot", pictureOf(1, 1, 1)},
		{"dots in a row", pictureOf(3, 1, 1, 0, 1)},
		{"dots in a column", pictureOf(1, 3, 0, 1, 1)},
		{"empty points only", pictureOf(2, 2, 0, 0, 0, 0)},
		{"dots only", pictureOf(2, 2, 1, 1, 1, 1)},
		{"an uneven plate", noisePicture(5, 3, 1)},
		{"a plate of the widest area", noisePicture(64, 16, 1)},
		{"a plate of the square area", noisePicture(32, 32, 1)},
	}
}

func picturesAndPlates() []namedPicture {
	return append(goodPictures(), goodPlates()...)
}

// badPictures holds values of type Picture that are no pictures, each for one reason.
func badPictures() []namedPicture {
	return []namedPicture{
		{"the zero value", impl.Picture{}},
		{"a width of 0", pictureOf(0, 1)},
		{"a height of 0", pictureOf(1, 0)},
		{"a negative width", pictureOf(-1, 1)},
		{"negative sides with a positive product", pictureOf(-2, -2, 1, 1, 1, 1)},
		{"a side above MaxSide", pictureOf(65, 1, make([]int, 65)...)},
		{"a height above MaxSide", pictureOf(1, 65, make([]int, 65)...)},
		{"an area above MaxArea", pictureOf(41, 25, make([]int, 1025)...)},
		{"both sides of MaxSide", pictureOf(64, 64, make([]int, 4096)...)},
		{"a product that wraps to 0", pictureOf(1<<32, 1<<32)},
		{"a product that wraps to 0 the other way", pictureOf(math.MinInt, 2)},
		{"a product that wraps to 1", pictureOf(math.MaxInt, math.MaxInt, 1)},
		{"a huge width", pictureOf(math.MaxInt, 1, 1)},
		{"a huge height", pictureOf(1, math.MaxInt, 1)},
		{"no list", pictureOf(1, 1)},
		{"a list that is too short", pictureOf(2, 2, 1, 1, 1)},
		{"a list that is too long", pictureOf(2, 2, 1, 1, 1, 1, 1)},
		{"a negative amount", pictureOf(2, 1, 0, -1)},
		{"an amount above Full", pictureOf(2, 1, 256, 0)},
		{"the least int as an amount", pictureOf(1, 2, math.MinInt, 0)},
		{"the greatest int as an amount", pictureOf(1, 2, 0, math.MaxInt)},
	}
}

// isSizeOfPicture says in other words than the program what a size is.
func isSizeOfPicture(width, height int) bool {
	return min(width, height) > 0 && max(width, height) < 65 && width*height < 1025
}

func equalPictures(p, q impl.Picture) bool {
	return p.Width == q.Width && p.Height == q.Height && slices.Equal(p.Ink, q.Ink)
}

func isZeroPicture(p impl.Picture) bool {
	return p.Width == 0 && p.Height == 0 && len(p.Ink) == 0
}

func wantPicture(t *testing.T, what string, got, want impl.Picture) {
	t.Helper()
	if !equalPictures(got, want) {
		t.Errorf("%s: got %v, want %v", what, got, want)
	}
}

func wantPictureOk(t *testing.T, what string, got impl.Picture, ok bool, want impl.Picture) {
	t.Helper()
	if !ok {
		t.Errorf("%s: got false, want true", what)
	}
	wantPicture(t, what, got, want)
}

// wantRefused asks for the zero value beside a false.
func wantRefused(t *testing.T, what string, got impl.Picture, ok bool) {
	t.Helper()
	if ok || !isZeroPicture(got) {
		t.Errorf("%s: got %v, %v, want the zero value and false", what, got, ok)
	}
}

func wantInt(t *testing.T, what string, got, want int) {
	t.Helper()
	if got != want {
		t.Errorf("%s: got %d, want %d", what, got, want)
	}
}

func wantBool(t *testing.T, what string, got, want bool) {
	t.Helper()
	if got != want {
		t.Errorf("%s: got %v, want %v", what, got, want)
	}
}

const spare = 8
const untouched = -12345

// roomyCopy returns p with a list of its own, behind which there is spare capacity full of a number that no function writes.
func roomyCopy(p impl.Picture) impl.Picture {
	room := make([]int, len(p.Ink)+spare)
	copy(room, p.Ink)
	for i := len(p.Ink); i < len(room); i++ {
		room[i] = untouched
	}
	return impl.Picture{Width: p.Width, Height: p.Height, Ink: room[:len(p.Ink)]}
}

// wantUntouched asks whether a roomyCopy of p is still as it was made, spare capacity included.
func wantUntouched(t *testing.T, what string, room, p impl.Picture) {
	t.Helper()
	wantPicture(t, what+": the argument", room, p)
	for _, number := range room.Ink[len(p.Ink) : len(p.Ink)+spare] {
		if number != untouched {
			t.Errorf("%s: the capacity behind the argument was written to", what)
			return
		}
	}
}

// fillAll writes into all memory that the list can reach.
func fillAll(list []int, number int) {
	list = list[:cap(list)]
	for i := range list {
		list[i] = number
	}
}

// wantNewMemory writes into a result and into the argument, and looks at what should not have changed by that.
func wantNewMemory(t *testing.T, what string, p impl.Picture, make func(p impl.Picture) []int) {
	t.Helper()
	room := roomyCopy(p)
	result, again := make(room), make(room)
	want := slices.Clone(again)
	fillAll(result, 99)
	wantUntouched(t, what, room, p)
	fillAll(room.Ink, 98)
	wantInts(t, what+": a second result", again, want...)
}
