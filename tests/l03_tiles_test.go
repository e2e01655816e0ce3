package tests

import (
	"math"
	"testing"

	"loop.example/g03229/impl"
)

func TestTileSumsExamples(t *testing.T) {
	p := pictureOf(5, 3, 1, 2, 3, 4, 5, 10, 20, 30, 40, 50, 100, 110, 120, 130, 140)
	wantInts(t, "points", impl.TileSums(p, 1, 1), p.Ink...)
	wantInts(t, "rows", impl.TileSums(p, 5, 1), 15, 150, 600)
	wantInts(t, "columns", impl.TileSums(p, 1, 3), 111, 132, 153, 174, 195)
	wantInts(t, "the whole", impl.TileSums(p, 5, 3), 765)
	wantInts(t, "tiles that leave a column and a row", impl.TileSums(p, 2, 2), 33, 77)
	wantInts(t, "tiles that leave more", impl.TileSums(p, 3, 2), 66)
	wantInts(t, "tiles of one row", impl.TileSums(p, 2, 1), 3, 7, 30, 70, 210, 250)
	wantInts(t, "a tile that is too wide", impl.TileSums(p, 6, 1))
	wantInts(t, "a tile that is too high", impl.TileSums(p, 1, 4))
	wantInts(t, "a plate", impl.TileSums(pictureOf(4, 1, 1, 0, 1, 1), 2, 1), 1, 2)
	wantInts(t, "a point", impl.TileSums(pictureOf(1, 1, 255), 1, 1), 255)
	full, _ := impl.FlatPicture(32, 32, 255)
	wantInts(t, "the most ink", impl.TileSums(full, 32, 32), 261120)
}

func TestTileSums(t *testing.T) {
	for _, s := range picturesAndPlates() {
		for _, width := range []int{1, 2, 3, 4, 5, 7, 8, 16, 31, 32, 33, 63, 64, 65} {
			for _, height := range []int{1, 2, 3, 4, 5, 7, 8, 16, 31, 32, 33, 63, 64, 65} {
				want := tilesByCropping(s.picture, width, height)
				wantInts(t, "tiles "+sizeName(width, height)+" of "+s.name, impl.TileSums(s.picture, width, height), want...)
			}
		}
	}
}

func TestTileSumsOfEachSize(t *testing.T) {
	p := noisePicture(11, 9, 255)
	for width := -2; width <= 13; width++ {
		for height := -2; height <= 13; height++ {
			var want []int
			if width > 0 && height > 0 {
				want = tilesByCropping(p, width, height)
			}
			wantInts(t, "tiles "+sizeName(width, height), impl.TileSums(p, width, height), want...)
		}
	}
}

func TestTileSumsOfExtremeSizes(t *testing.T) {
	for _, s := range picturesAndPlates() {
		for _, side := range extremes {
			if side >= 1 && side <= 64 {
				continue
			}
			what := "tiles of " + number(side) + " of " + s.name
			wantInts(t, what, impl.TileSums(s.picture, side, 1))
			wantInts(t, what, impl.TileSums(s.picture, 1, side))
			for _, other := range extremes {
				wantInts(t, what, impl.TileSums(s.picture, side, other))
				wantInts(t, what, impl.TileSums(s.picture, other, side))
			}
		}
	}
}

func TestTileSumsOfNoPicture(t *testing.T) {
	for _, s := range badPictures() {
		for _, side := range []int{-1, 0, 1, 2, math.MaxInt} {
			wantInts(t, "TileSums of "+s.name, impl.TileSums(s.picture, side, 1))
			wantInts(t, "TileSums of "+s.name, impl.TileSums(s.picture, 1, side))
		}
	}
}

func TestErrorOfExamples(t *testing.T) {
	wantInt(t, "two points", impl.ErrorOf(pictureOf(2, 1, 100, 200), pictureOf(2, 1, 0, 1)), 10000+3025)
	wantInt(t, "no error", impl.ErrorOf(pictureOf(2, 2, 0, 255, 255, 0), pictureOf(2, 2, 0, 1, 1, 0)), 0)
	wantInt(t, "an empty point and a dot", impl.ErrorOf(pictureOf(1, 1, 0), pictureOf(1, 1, 1)), 65025)
	wantInt(t, "a full point and no dot", impl.ErrorOf(pictureOf(1, 1, 255), pictureOf(1, 1, 0)), 65025)
	wantInt(t, "a plate as a picture", impl.ErrorOf(pictureOf(3, 1, 1, 0, 1), pictureOf(3, 1, 1, 0, 1)), 2*254*254)
	wantInt(t, "a picture as a plate", impl.ErrorOf(pictureOf(2, 1, 0, 1), pictureOf(2, 1, 0, 2)), -1)
	wantInt(t, "a full picture as a plate", impl.ErrorOf(pictureOf(2, 1, 255, 255), pictureOf(2, 1, 255, 255)), -1)
	full, _ := impl.FlatPicture(32, 32, 255)
	empty, _ := impl.FlatPicture(32, 32, 0)
	wantInt(t, "the greatest error", impl.ErrorOf(full, empty), 1024*65025)
}

func TestErrorOf(t *testing.T) {
	for _, r := range picturesAndPlates() {
		p := r.picture
		for _, q := range []impl.Picture{plateOf(p), noisePicture(p.Width, p.Height, 1), impl.NegativePicture(plateOf(p))} {
			want := 0
			for i, ink := range p.Ink {
				missing := ink
				if q.Ink[i] == 1 {
					missing = 255 - ink
				}
				want += missing * missing
			}
			wantInt(t, "the error of "+r.name, impl.ErrorOf(p, q), want)
		}
	}
}

// TestErrorOfEachPair gives each picture to each plate: they are of the same size only now and then.
func TestErrorOfEachPair(t *testing.T) {
	for _, a := range picturesAndPlates() {
		for _, b := range picturesAndPlates() {
			same := a.picture.Width == b.picture.Width && a.picture.Height == b.picture.Height
			want := same && impl.IsPlate(b.picture)
			wantBool(t, "ErrorOf "+a.name+" and "+b.name, impl.ErrorOf(a.picture, b.picture) >= 0, want)
			if !want {
				wantInt(t, "ErrorOf "+a.name+" and "+b.name, impl.ErrorOf(a.picture, b.picture), -1)
			}
		}
	}
}

func TestErrorOfOtherSizes(t *testing.T) {
	p := pictureOf(2, 3, 1, 2, 3, 4, 5, 6)
	for _, q := range []impl.Picture{pictureOf(3, 2, 0, 1, 0, 1, 0, 1), pictureOf(6, 1, 0, 1, 0, 1, 0, 1), pictureOf(2, 2, 0, 1, 0, 1), pictureOf(1, 3, 0, 1, 0)} {
		wantInt(t, "a plate of another size", impl.ErrorOf(p, q), -1)
		wantInt(t, "a picture of another size", impl.ErrorOf(q, plateOf(p)), -1)
	}
}

func TestErrorOfWhatIsNotValid(t *testing.T) {
	for _, s := range badPictures() {
		wantInt(t, "ErrorOf "+s.name, impl.ErrorOf(s.picture, pictureOf(1, 1, 1)), -1)
		wantInt(t, "ErrorOf with "+s.name, impl.ErrorOf(pictureOf(1, 1, 100), s.picture), -1)
		wantInt(t, "ErrorOf twice "+s.name, impl.ErrorOf(s.picture, s.picture), -1)
	}
	for _, amount := range []int{math.MinInt, -1, 256, math.MaxInt} {
		wantInt(t, "an amount that is none", impl.ErrorOf(pictureOf(2, 1, 0, amount), pictureOf(2, 1, 0, 1)), -1)
	}
	for _, amount := range []int{math.MinInt, -1, 2, 255, math.MaxInt} {
		wantInt(t, "an amount that is none of a plate", impl.ErrorOf(pictureOf(2, 1, 0, 100), pictureOf(2, 1, amount, 0)), -1)
		wantInt(t, "the last amount is none of a plate", impl.ErrorOf(pictureOf(2, 1, 0, 100), pictureOf(2, 1, 0, amount)), -1)
	}
}
