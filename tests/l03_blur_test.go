package tests

import (
	"testing"

	"loop.example/g03229/impl"
)

func TestBlurPictureExamples(t *testing.T) {
	p := pictureOf(3, 2, 1, 0, 0, 0, 1, 1)
	q, ok := impl.BlurPicture(p, 1, 1)
	wantPictureOk(t, "points", q, ok, pictureOf(3, 2, 255, 0, 0, 0, 255, 255))
	q, ok = impl.BlurPicture(p, 2, 1)
	wantPictureOk(t, "two points across", q, ok, pictureOf(3, 2, 127, 0, 127, 127, 255, 127))
	q, ok = impl.BlurPicture(p, 1, 2)
	wantPictureOk(t, "two points down", q, ok, pictureOf(3, 2, 127, 127, 127, 127, 127, 127))
	q, ok = impl.BlurPicture(p, 2, 2)
	wantPictureOk(t, "four points", q, ok, pictureOf(3, 2, 127, 127, 127, 127, 127, 127))
	q, ok = impl.BlurPicture(p, 4, 1)
	wantPictureOk(t, "a point counted twice across", q, ok, pictureOf(3, 2, 127, 63, 63, 127, 191, 191))
	q, ok = impl.BlurPicture(p, 1, 3)
	wantPictureOk(t, "a point counted twice down", q, ok, pictureOf(3, 2, 170, 85, 85, 85, 170, 170))
	q, ok = impl.BlurPicture(pictureOf(1, 1, 1), 16, 16)
	wantPictureOk(t, "a dot counted 256 times", q, ok, pictureOf(1, 1, 255))
	q, ok = impl.BlurPicture(pictureOf(2, 1, 1, 0), 3, 16)
	wantPictureOk(t, "a part that is much larger", q, ok, pictureOf(2, 1, 170, 85))
}

func TestBlurPictureOfEachSize(t *testing.T) {
	for _, p := range []impl.Picture{noisePicture(5, 3, 1), noisePicture(1, 4, 1), noisePicture(6, 1, 1), noisePicture(18, 17, 1)} {
		for width := -1; width <= 18; width++ {
			for height := -1; height <= 18; height++ {
				what := "blurred by " + sizeName(width, height)
				q, ok := impl.BlurPicture(p, width, height)
				if min(width, height) < 1 || max(width, height) > 16 {
					wantRefused(t, what, q, ok)
					continue
				}
				wantPictureOk(t, what, q, ok, blurredByCopies(p, width, height))
			}
		}
	}
}

func TestBlurPicture(t *testing.T) {
	for _, s := range goodPlates() {
		for _, size := range [][2]int{{1, 1}, {16, 16}, {16, 1}, {1, 16}, {3, 5}, {7, 2}, {15, 16}} {
			what := s.name + " blurred by " + sizeName(size[0], size[1])
			q, ok := impl.BlurPicture(s.picture, size[0], size[1])
			wantPictureOk(t, what, q, ok, blurredByCopies(s.picture, size[0], size[1]))
			wantBool(t, what+" is a picture", impl.IsPicture(q), true)
		}
	}
}

func TestBlurPictureOfExtremeSizes(t *testing.T) {
	p := noisePicture(4, 4, 1)
	for _, side := range append([]int{17, 32}, extremes...) {
		if side >= 1 && side <= 16 {
			continue
		}
		for _, other := range append([]int{1, 16}, extremes...) {
			q, ok := impl.BlurPicture(p, side, other)
			wantRefused(t, "blurred by "+sizeName(side, other), q, ok)
			q, ok = impl.BlurPicture(p, other, side)
			wantRefused(t, "blurred by "+sizeName(other, side), q, ok)
		}
	}
}

func TestBlurPictureOfNoPlate(t *testing.T) {
	for _, s := range append(goodPictures(), badPictures()...) {
		for _, side := range []int{0, 1, 2, 16, 17} {
			q, ok := impl.BlurPicture(s.picture, side, 1)
			wantRefused(t, "BlurPicture of "+s.name, q, ok)
			q, ok = impl.BlurPicture(s.picture, 1, side)
			wantRefused(t, "BlurPicture of "+s.name, q, ok)
		}
	}
	q, ok := impl.BlurPicture(pictureOf(2, 2, 0, 1, 1, 2), 1, 1)
	wantRefused(t, "a single 2 makes it no plate", q, ok)
}

// TestBlurPictureOfScreenedLevels blurs with parts of the size of the matrix: each one has as many dots as the level.
func TestBlurPictureOfScreenedLevels(t *testing.T) {
	for k := 0; k <= 4; k++ {
		bayer, _ := impl.BayerMatrix(k)
		n := len(bayer.Ranks)
		for level := range n + 1 {
			plate, _ := impl.ScreenLevel(bayer, level, 2*bayer.Width, bayer.Height)
			q, ok := impl.BlurPicture(plate, bayer.Width, bayer.Height)
			flat, _ := impl.FlatPicture(2*bayer.Width, bayer.Height, shareOfFull(level, n))
			wantPictureOk(t, "level "+number(level)+" of Bayer "+number(k), q, ok, flat)
		}
	}
}

func TestBlurPictureOnTheTorus(t *testing.T) {
	for _, s := range goodPlates() {
		p := s.picture
		if !isSizeOfPicture(2*p.Width, 2*p.Height) {
			continue
		}
		tiled, _ := impl.TilePicture(p, 2*p.Width, 2*p.Height)
		large, ok := impl.BlurPicture(tiled, 5, 4)
		small, _ := impl.BlurPicture(p, 5, 4)
		want, _ := impl.TilePicture(small, 2*p.Width, 2*p.Height)
		wantPictureOk(t, "four tiles of "+s.name, large, ok, want)
	}
}
