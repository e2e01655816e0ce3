package tests

import (
	"math"
	"slices"
	"testing"

	"loop.example/g03229/impl"
)

type namedKernel struct {
	name  string
	parts []impl.Part
}

func partOf(dx, dy, weight int) impl.Part {
	return impl.Part{DX: dx, DY: dy, Weight: weight}
}

// manyParts has parts with different places, in the rows below the point; there is room for 36.
func manyParts(count int) []impl.Part {
	var parts []impl.Part
	for i := range count {
		parts = append(parts, partOf(i%9-4, i/9+1, i%7+1))
	}
	return parts
}

// goodKernels holds kernels of every kind of place and weight.
func goodKernels() []namedKernel {
	wide := []impl.Part{
		partOf(1, 0, 7), partOf(2, 0, 5), partOf(-2, 1, 3), partOf(-1, 1, 5), partOf(0, 1, 7), partOf(1, 1, 5),
		partOf(2, 1, 3), partOf(-2, 2, 1), partOf(-1, 2, 3), partOf(0, 2, 5), partOf(1, 2, 3), partOf(2, 2, 1),
	}
	return []namedKernel{
		{"to the right", []impl.Part{partOf(1, 0, 1)}},
		{"to the right with the greatest weight", []impl.Part{partOf(1, 0, 100)}},
		{"farthest to the right", []impl.Part{partOf(4, 0, 2)}},
		{"down", []impl.Part{partOf(0, 1, 1)}},
		{"farthest down", []impl.Part{partOf(0, 4, 3)}},
		{"down to the left", []impl.Part{partOf(-1, 1, 1)}},
		{"down to the right", []impl.Part{partOf(1, 1, 1)}},
		{"the farthest corners", []impl.Part{partOf(-4, 4, 1), partOf(4, 4, 100)}},
		{"the four of Stein", []impl.Part{partOf(1, 0, 7), partOf(-1, 1, 3), partOf(0, 1, 5), partOf(1, 1, 1)}},
		{"the four of Stein from behind", []impl.Part{partOf(1, 1, 1), partOf(0, 1, 5), partOf(-1, 1, 3), partOf(1, 0, 7)}},
		{"three equal ones", []impl.Part{partOf(0, 1, 1), partOf(1, 0, 1), partOf(2, 0, 1)}},
		{"a small and a large one", []impl.Part{partOf(1, 0, 1), partOf(0, 1, 100)}},
		{"all of one row", []impl.Part{partOf(4, 0, 9), partOf(3, 0, 8), partOf(2, 0, 7), partOf(1, 0, 6)}},
		{"the same DX in other rows", []impl.Part{partOf(1, 0, 5), partOf(1, 1, 5), partOf(1, 2, 5), partOf(1, 3, 5), partOf(1, 4, 5)}},
		{"twelve parts below", manyParts(12)},
		{"twelve parts", wide},
		{"eleven parts", wide[:11:11]},
	}
}

// badKernels holds lists that are no kernels, each for one reason.
func badKernels() []namedKernel {
	lists := []namedKernel{
		{"no list", nil},
		{"no parts", []impl.Part{}},
		{"thirteen parts", manyParts(13)},
		{"thirty-six parts", manyParts(36)},
		{"the same place twice", []impl.Part{partOf(1, 0, 1), partOf(1, 0, 1)}},
		{"the same place with another weight", []impl.Part{partOf(1, 0, 1), partOf(1, 0, 2)}},
		{"the same place at the ends", []impl.Part{partOf(0, 1, 3), partOf(1, 0, 1), partOf(1, 1, 1), partOf(0, 1, 2)}},
		{"the same place in the last two of twelve", append(manyParts(11), partOf(-3, 2, 1))},
		{"the point itself", []impl.Part{partOf(0, 0, 1)}},
		{"the point to the left", []impl.Part{partOf(-1, 0, 1)}},
		{"the last one is the point to the left", []impl.Part{partOf(1, 0, 1), partOf(0, 1, 1), partOf(-1, 0, 1)}},
		{"the row above", []impl.Part{partOf(1, -1, 1)}},
		{"a row that is too far down", []impl.Part{partOf(0, 5, 1)}},
		{"too far to the right", []impl.Part{partOf(5, 0, 1)}},
		{"too far to the left", []impl.Part{partOf(-5, 1, 1)}},
		{"a weight of 0", []impl.Part{partOf(1, 0, 0)}},
		{"a negative weight", []impl.Part{partOf(1, 0, -1)}},
		{"a weight above MaxWeight", []impl.Part{partOf(1, 0, 101)}},
		{"the last weight is 0", []impl.Part{partOf(1, 0, 1), partOf(0, 1, 0)}},
		{"weights whose sum wraps", []impl.Part{partOf(1, 0, math.MaxInt), partOf(0, 1, math.MaxInt), partOf(1, 1, 3)}},
		{"the zero value of a part", []impl.Part{{}}},
	}
	for _, n := range []int{math.MinInt, math.MinInt + 1, -1 << 32, 1 << 32, math.MaxInt} {
		lists = append(lists,
			namedKernel{"DX is " + number(n), []impl.Part{partOf(n, 1, 1)}},
			namedKernel{"DY is " + number(n), []impl.Part{partOf(1, n, 1)}},
			namedKernel{"the weight is " + number(n), []impl.Part{partOf(1, 1, n)}},
		)
	}
	return lists
}

func wantParts(t *testing.T, what string, got, want []impl.Part) {
	t.Helper()
	if !slices.Equal(got, want) {
		t.Errorf("%s: got %v, want %v", what, got, want)
	}
}

var untouchedPart = impl.Part{DX: untouched, DY: untouched, Weight: untouched}

// roomyKernel is roomyCopy for kernels.
func roomyKernel(k []impl.Part) []impl.Part {
	room := append(slices.Clone(k), slices.Repeat([]impl.Part{untouchedPart}, spare)...)
	return room[:len(k)]
}

func wantUntouchedKernel(t *testing.T, what string, room, k []impl.Part) {
	t.Helper()
	wantParts(t, what+": the kernel", room, k)
	wantParts(t, what+": the capacity behind the kernel", room[len(k):len(k)+spare], slices.Repeat([]impl.Part{untouchedPart}, spare))
}

func fillParts(parts []impl.Part) {
	parts = parts[:cap(parts)]
	for i := range parts {
		parts[i] = partOf(99, 99, 99)
	}
}

func sumOfWeights(k []impl.Part) int {
	sum := 0
	for _, part := range k {
		sum += part.Weight
	}
	return sum
}

func sumOfInts(list []int) int {
	sum := 0
	for _, n := range list {
		sum += n
	}
	return sum
}

// sharesByLifting adds so much to each product that no share is negative while it is rounded.
func sharesByLifting(k []impl.Part, e int) []int {
	const lift = 1000000000
	whole, others := sumOfWeights(k), 0
	shares := make([]int, len(k))
	for i, part := range k {
		shares[i] = (e*part.Weight+lift*whole)/whole - lift
		if i > 0 {
			others += shares[i]
		}
	}
	shares[0] = e - others
	return shares
}

type diffusedPicture struct {
	plate  impl.Picture
	errors []int
	lost   int
}

// wayOf is the direction in which a row is gone through.
func wayOf(y int, alternating bool) int {
	if alternating && y%2 == 1 {
		return -1
	}
	return 1
}

// diffusedByPulling collects for each point the shares from the points that give to it. The program goes the other way.
func diffusedByPulling(k []impl.Part, p impl.Picture, alternating bool) diffusedPicture {
	d := diffusedPicture{plate: pictureOf(p.Width, p.Height, make([]int, len(p.Ink))...), errors: make([]int, len(p.Ink))}
	shares := make([][]int, len(p.Ink))
	for n := range p.Ink {
		x, y := n%p.Width, n/p.Width
		if wayOf(y, alternating) < 0 {
			x = p.Width - 1 - x
		}
		i := y*p.Width + x
		value := p.Ink[i]
		for m, part := range k {
			fromY := y - part.DY
			fromX := x - part.DX
			if fromY >= 0 {
				fromX = x - wayOf(fromY, alternating)*part.DX
			}
			if fromY >= 0 && fromX >= 0 && fromX < p.Width {
				value += shares[fromY*p.Width+fromX][m]
			}
		}
		if value > 127 {
			d.plate.Ink[i] = 1
		}
		d.errors[i] = value - 255*d.plate.Ink[i]
		shares[i] = sharesByLifting(k, d.errors[i])
	}
	d.lost = lostShares(k, p.Width, p.Height, shares, alternating)
	return d
}

func lostShares(k []impl.Part, width, height int, shares [][]int, alternating bool) int {
	lost := 0
	for i := range shares {
		x, y := i%width, i/width
		for m, part := range k {
			toX, toY := x+wayOf(y, alternating)*part.DX, y+part.DY
			if toX < 0 || toX >= width || toY >= height {
				lost += shares[i][m]
			}
		}
	}
	return lost
}

// diffusionPictures adds to picturesAndPlates some pictures whose errors go far.
func diffusionPictures() []namedPicture {
	pictures := picturesAndPlates()
	for _, ink := range []int{0, 1, 2, 64, 100, 127, 128, 129, 200, 254, 255} {
		flat, _ := impl.FlatPicture(9, 7, ink)
		pictures = append(pictures, namedPicture{"a flat picture of " + number(ink), flat})
	}
	ramp, _ := impl.RampPicture(64, 16)
	return append(pictures, namedPicture{"a ramp", ramp}, namedPicture{"a turned ramp", impl.TurnPicture(ramp)})
}

// wayName is for the names of tests that go both ways.
func wayName(alternating bool) string {
	if alternating {
		return " on an alternating way"
	}
	return " from the left"
}
