package tests

import (
	"math"
	"testing"

	"loop.example/g03229/impl"
)

// wantDiffusion compares what DiffusePicture and ErrorsOf return.
func wantDiffusion(t *testing.T, what string, k []impl.Part, p impl.Picture, alternating bool, want diffusedPicture) {
	t.Helper()
	what += wayName(alternating)
	plate, lost, ok := impl.DiffusePicture(k, p, alternating)
	wantPictureOk(t, what, plate, ok, want.plate)
	wantInt(t, what+": the lost shares", lost, want.lost)
	wantInts(t, what+": the errors", impl.ErrorsOf(k, p, alternating), want.errors...)
}

// wantNoDiffusion asks for the zero values of DiffusePicture and ErrorsOf.
func wantNoDiffusion(t *testing.T, what string, k []impl.Part, p impl.Picture) {
	t.Helper()
	for _, alternating := range []bool{false, true} {
		plate, lost, ok := impl.DiffusePicture(k, p, alternating)
		wantRefused(t, what+wayName(alternating), plate, ok)
		wantInt(t, what+wayName(alternating)+": the lost shares", lost, 0)
		wantInts(t, what+wayName(alternating)+": the errors", impl.ErrorsOf(k, p, alternating))
	}
}

func TestDiffusionOfOnePoint(t *testing.T) {
	for _, c := range [][3]int{{0, 0, 0}, {1, 0, 1}, {127, 0, 127}, {128, 1, -127}, {200, 1, -55}, {254, 1, -1}, {255, 1, 0}} {
		for _, s := range goodKernels() {
			want := diffusedPicture{plate: pictureOf(1, 1, c[1]), errors: []int{c[2]}, lost: c[2]}
			for _, alternating := range []bool{false, true} {
				wantDiffusion(t, "a point with "+number(c[0])+" and "+s.name, s.parts, pictureOf(1, 1, c[0]), alternating, want)
			}
		}
	}
}

// TestDiffusionAtTheThreshold has values of 127 and 128 that are made of an amount and a share.
func TestDiffusionAtTheThreshold(t *testing.T) {
	plain := impl.PlainKernel()
	wantDiffusion(t, "127", plain, pictureOf(2, 1, 100, 27), false, diffusedPicture{pictureOf(2, 1, 0, 0), []int{100, 127}, 127})
	wantDiffusion(t, "128", plain, pictureOf(2, 1, 100, 28), false, diffusedPicture{pictureOf(2, 1, 0, 1), []int{100, -127}, -127})
	wantDiffusion(t, "127 after a dot", plain, pictureOf(2, 1, 155, 227), false, diffusedPicture{pictureOf(2, 1, 1, 0), []int{-100, 127}, 127})
	wantDiffusion(t, "128 after a dot", plain, pictureOf(2, 1, 155, 228), false, diffusedPicture{pictureOf(2, 1, 1, 1), []int{-100, -127}, -127})
	wantDiffusion(t, "the greatest value", plain, pictureOf(2, 1, 127, 255), false, diffusedPicture{pictureOf(2, 1, 0, 1), []int{127, 127}, 127})
	wantDiffusion(t, "the least value", plain, pictureOf(2, 1, 128, 0), false, diffusedPicture{pictureOf(2, 1, 1, 0), []int{-127, -127}, -127})
}

func TestDiffusionWithStein(t *testing.T) {
	p := pictureOf(2, 2, 100, 200, 50, 150)
	stein := impl.SteinKernel()
	wantDiffusion(t, "four points", stein, p, false, diffusedPicture{pictureOf(2, 2, 0, 1, 0, 1), []int{100, -10, 79, -66}, -10})
	wantDiffusion(t, "four points", stein, p, true, diffusedPicture{pictureOf(2, 2, 0, 1, 0, 1), []int{100, -10, 36, -103}, -10})
	row := pictureOf(3, 1, 100, 100, 100)
	wantDiffusion(t, "a row", stein, row, false, diffusedPicture{pictureOf(3, 1, 0, 1, 0), []int{100, -110, 53}, 45})
}

// TestDiffusionOfOneShare follows the only error of a picture on its way.
func TestDiffusionOfOneShare(t *testing.T) {
	p := pictureOf(3, 3, 100, 0, 0, 0, 0, 0, 0, 0, 0)
	empty := pictureOf(3, 3, make([]int, 9)...)
	to := func(dx, dy int) []impl.Part { return []impl.Part{partOf(dx, dy, 9)} }
	wantDiffusion(t, "to the right", to(1, 0), p, false, diffusedPicture{empty, []int{100, 100, 100, 0, 0, 0, 0, 0, 0}, 100})
	wantDiffusion(t, "by two to the right", to(2, 0), p, true, diffusedPicture{empty, []int{100, 0, 100, 0, 0, 0, 0, 0, 0}, 100})
	wantDiffusion(t, "down", to(0, 1), p, true, diffusedPicture{empty, []int{100, 0, 0, 100, 0, 0, 100, 0, 0}, 100})
	wantDiffusion(t, "by two down", to(0, 2), p, false, diffusedPicture{empty, []int{100, 0, 0, 0, 0, 0, 100, 0, 0}, 100})
	wantDiffusion(t, "down to the right", to(1, 1), p, false, diffusedPicture{empty, []int{100, 0, 0, 0, 100, 0, 0, 0, 100}, 100})
	wantDiffusion(t, "down to the right and back", to(1, 1), p, true, diffusedPicture{empty, []int{100, 0, 0, 0, 100, 0, 100, 0, 0}, 100})
	wantDiffusion(t, "by two down to the right", to(1, 2), p, true, diffusedPicture{empty, []int{100, 0, 0, 0, 0, 0, 0, 100, 0}, 100})
	second := pictureOf(3, 3, 0, 0, 0, 0, 100, 0, 0, 0, 0)
	wantDiffusion(t, "to the right in the second row", to(1, 0), second, false, diffusedPicture{empty, []int{0, 0, 0, 0, 100, 100, 0, 0, 0}, 100})
	wantDiffusion(t, "to the left in the second row", to(1, 0), second, true, diffusedPicture{empty, []int{0, 0, 0, 100, 100, 0, 0, 0, 0}, 100})
	wantDiffusion(t, "down to the left from the second row", to(-1, 1), second, false, diffusedPicture{empty, []int{0, 0, 0, 0, 100, 0, 100, 0, 0}, 100})
	wantDiffusion(t, "down to the right from the second row", to(-1, 1), second, true, diffusedPicture{empty, []int{0, 0, 0, 0, 100, 0, 0, 0, 100}, 100})
}

// TestLostShares has a point at each side of a picture whose share leaves it there.
func TestLostShares(t *testing.T) {
	empty := pictureOf(2, 2, 0, 0, 0, 0)
	k := func(dx, dy int) []impl.Part { return []impl.Part{partOf(dx, dy, 1), partOf(0, 4, 3)} }
	cases := []struct {
		name        string
		parts       []impl.Part
		at          int
		alternating bool
	}{
		{"on the right side", k(1, 0), 1, false},
		{"on the left side", k(1, 0), 2, true},
		{"below", k(0, 1), 2, false},
		{"below by two", k(0, 2), 0, true},
		{"below to the left", k(-1, 1), 2, false},
		{"below to the right", k(1, 1), 3, false},
		{"on the left side, one row down", k(-1, 1), 0, true},
		{"on the right side, one row down", k(1, 1), 1, true},
		{"far on the left side", k(-4, 1), 1, false},
		{"far on the right side", k(4, 0), 0, false},
	}
	for _, c := range cases {
		p := pictureOf(2, 2, 0, 0, 0, 0)
		p.Ink[c.at] = 80
		wantDiffusion(t, "lost "+c.name, c.parts, p, c.alternating, diffusedPicture{empty, p.Ink, 80})
	}
}

func TestDiffusionWithoutInkAndFull(t *testing.T) {
	for _, size := range [][2]int{{1, 1}, {7, 1}, {1, 7}, {5, 4}, {64, 16}, {16, 64}, {32, 32}} {
		empty, _ := impl.FlatPicture(size[0], size[1], 0)
		full, _ := impl.FlatPicture(size[0], size[1], 255)
		dots, _ := impl.FlatPicture(size[0], size[1], 1)
		for _, s := range goodKernels() {
			for _, alternating := range []bool{false, true} {
				what := sizeName(size[0], size[1]) + " with " + s.name
				wantDiffusion(t, "no ink, "+what, s.parts, empty, alternating, diffusedPicture{empty, empty.Ink, 0})
				wantDiffusion(t, "full, "+what, s.parts, full, alternating, diffusedPicture{dots, empty.Ink, 0})
			}
		}
	}
}

func TestDiffusionOfRowsAndColumns(t *testing.T) {
	down := []impl.Part{partOf(0, 1, 1)}
	right := impl.PlainKernel()
	want := diffusedPicture{pictureOf(4, 1, 0, 1, 0, 0), []int{100, -55, 45, 100}, 100}
	wantDiffusion(t, "a row", right, pictureOf(4, 1, 100, 100, 100, 55), false, want)
	wantDiffusion(t, "a row", right, pictureOf(4, 1, 100, 100, 100, 55), true, want)
	want.plate = pictureOf(1, 4, 0, 1, 0, 0)
	wantDiffusion(t, "a column", down, pictureOf(1, 4, 100, 100, 100, 55), false, want)
	wantDiffusion(t, "a column", down, pictureOf(1, 4, 100, 100, 100, 55), true, want)
	lost := diffusedPicture{pictureOf(4, 1, 0, 0, 0, 0), []int{100, 100, 100, 55}, 355}
	wantDiffusion(t, "a row whose shares are lost", down, pictureOf(4, 1, 100, 100, 100, 55), true, lost)
	lost.plate = pictureOf(1, 4, 0, 0, 0, 0)
	wantDiffusion(t, "a column whose shares are lost", right, pictureOf(1, 4, 100, 100, 100, 55), true, lost)
}

// TestDiffusionOfPlates gives plates where pictures are asked: a 1 is an amount of 1.
func TestDiffusionOfPlates(t *testing.T) {
	want := diffusedPicture{pictureOf(3, 1, 0, 0, 0), []int{1, 1, 2}, 2}
	wantDiffusion(t, "a plate", impl.PlainKernel(), pictureOf(3, 1, 1, 0, 1), false, want)
	dots, _ := impl.FlatPicture(16, 8, 1)
	k := []impl.Part{partOf(1, 0, 1)}
	plate, lost, ok := impl.DiffusePicture(k, dots, true)
	wantPictureOk(t, "dots only", plate, ok, pictureOf(16, 8, make([]int, 128)...))
	wantInt(t, "the ink of dots only", lost, 128)
	long, _ := impl.FlatPicture(1, 64, 1)
	k = []impl.Part{partOf(0, 1, 1)}
	plate, lost, ok = impl.DiffusePicture(k, long, true)
	wantPictureOk(t, "a column of dots", plate, ok, pictureOf(1, 64, make([]int, 64)...))
	wantInt(t, "the ink of a column of dots", lost, 64)
}

func TestDiffusion(t *testing.T) {
	for _, s := range goodKernels() {
		for _, r := range diffusionPictures() {
			for _, alternating := range []bool{false, true} {
				want := diffusedByPulling(s.parts, r.picture, alternating)
				wantDiffusion(t, r.name+" with "+s.name, s.parts, r.picture, alternating, want)
			}
		}
	}
}

// TestDiffusionLosesNothing is promise P4.
func TestDiffusionLosesNothing(t *testing.T) {
	for _, s := range goodKernels() {
		for _, r := range diffusionPictures() {
			for _, alternating := range []bool{false, true} {
				what := r.name + " with " + s.name + wayName(alternating)
				plate, lost, ok := impl.DiffusePicture(s.parts, r.picture, alternating)
				wantBool(t, what, ok, true)
				wantBool(t, what+" is a plate", impl.IsPlate(plate), true)
				wantInt(t, what, 255*impl.SumInk(plate)+lost, impl.SumInk(r.picture))
				wantInt(t, what+": one error for each point", len(impl.ErrorsOf(s.parts, r.picture, alternating)), len(r.picture.Ink))
			}
		}
	}
}

// TestDiffusionOfMirroredPictures uses kernels whose shares all go down: then the way through a row does not matter.
func TestDiffusionOfMirroredPictures(t *testing.T) {
	for _, s := range goodKernels() {
		mirrored, ok := impl.MirrorKernel(s.parts)
		if !ok {
			continue
		}
		for _, r := range diffusionPictures() {
			plate, lost, _ := impl.DiffusePicture(s.parts, r.picture, false)
			other, otherLost, ok := impl.DiffusePicture(mirrored, impl.MirrorPicture(r.picture), false)
			what := "the mirrored picture " + r.name + " with " + s.name
			wantPictureOk(t, what, other, ok, impl.MirrorPicture(plate))
			wantInt(t, what, otherLost, lost)
		}
	}
}

// TestAlternatingOfOneRow checks that the first row is gone through from the left on both ways.
func TestAlternatingOfOneRow(t *testing.T) {
	for _, s := range goodKernels() {
		for width := 1; width <= 64; width++ {
			p := noisePicture(width, 1, 255)
			plate, lost, _ := impl.DiffusePicture(s.parts, p, false)
			wantDiffusion(t, "one row with "+s.name, s.parts, p, true, diffusedPicture{plate, impl.ErrorsOf(s.parts, p, false), lost})
		}
	}
}

// TestAlternatingRows has rows that give nothing to each other: every second one is that of the mirrored row.
func TestAlternatingRows(t *testing.T) {
	plain := impl.PlainKernel()
	p := noisePicture(11, 9, 255)
	got, _, _ := impl.DiffusePicture(plain, p, true)
	for y := range p.Height {
		row, _ := impl.CropPicture(p, 0, y, 11, 1)
		if y%2 == 1 {
			row = impl.MirrorPicture(row)
		}
		want, _, _ := impl.DiffusePicture(plain, row, false)
		if y%2 == 1 {
			want = impl.MirrorPicture(want)
		}
		gotRow, _ := impl.CropPicture(got, 0, y, 11, 1)
		wantPicture(t, "the row "+number(y), gotRow, want)
	}
}

func TestDiffusionOfWhatIsNotValid(t *testing.T) {
	for _, s := range badKernels() {
		wantNoDiffusion(t, "a picture with "+s.name, s.parts, pictureOf(2, 2, 1, 2, 3, 255))
		wantNoDiffusion(t, "a point with "+s.name, s.parts, pictureOf(1, 1, 0))
	}
	for _, r := range badPictures() {
		for _, s := range goodKernels() {
			wantNoDiffusion(t, r.name+" with "+s.name, s.parts, r.picture)
		}
		wantNoDiffusion(t, r.name+" without a kernel", nil, r.picture)
	}
	for _, amount := range []int{math.MinInt, -1, 256, math.MaxInt} {
		wantNoDiffusion(t, "the amount "+number(amount), impl.SteinKernel(), pictureOf(2, 2, 0, 0, 0, amount))
	}
}
