package tests

import (
	"testing"

	"loop.example/g03229/impl"
)

func TestMirrorPicture(t *testing.T) {
	wantPicture(t, "a picture", impl.MirrorPicture(pictureOf(3, 2, 1, 2, 3, 4, 5, 6)), pictureOf(3, 2, 3, 2, 1, 6, 5, 4))
	wantPicture(t, "a column", impl.MirrorPicture(pictureOf(1, 3, 1, 2, 3)), pictureOf(1, 3, 1, 2, 3))
	for _, s := range picturesAndPlates() {
		p := s.picture
		q := impl.MirrorPicture(p)
		wantBool(t, "the mirrored one is a picture: "+s.name, impl.IsPicture(q), true)
		for y := range p.Height {
			for x := range p.Width {
				wantInt(t, "mirrored "+s.name, impl.InkAt(q, p.Width-1-x, y), p.Ink[y*p.Width+x])
			}
		}
		wantPicture(t, "mirrored twice: "+s.name, impl.MirrorPicture(q), p)
	}
}

func TestTurnPicture(t *testing.T) {
	wantPicture(t, "a picture", impl.TurnPicture(pictureOf(3, 2, 1, 2, 3, 4, 5, 6)), pictureOf(2, 3, 3, 6, 2, 5, 1, 4))
	wantPicture(t, "a row", impl.TurnPicture(pictureOf(3, 1, 1, 2, 3)), pictureOf(1, 3, 3, 2, 1))
	wantPicture(t, "a column", impl.TurnPicture(pictureOf(1, 3, 1, 2, 3)), pictureOf(3, 1, 1, 2, 3))
	for _, s := range picturesAndPlates() {
		p := s.picture
		q := impl.TurnPicture(p)
		wantInt(t, "the width of the turned one: "+s.name, q.Width, p.Height)
		wantInt(t, "the height of the turned one: "+s.name, q.Height, p.Width)
		for y := range p.Height {
			for x := range p.Width {
				wantInt(t, "turned "+s.name, impl.InkAt(q, y, p.Width-1-x), p.Ink[y*p.Width+x])
			}
		}
		wantPicture(t, "turned four times: "+s.name, impl.TurnPicture(impl.TurnPicture(impl.TurnPicture(q))), p)
	}
}

func TestNegativePicture(t *testing.T) {
	for _, s := range goodPictures() {
		q := impl.NegativePicture(s.picture)
		wantInt(t, "the width of the negative: "+s.name, q.Width, s.picture.Width)
		for i, ink := range s.picture.Ink {
			wantInt(t, "negative of "+s.name, q.Ink[i], 255-ink)
		}
	}
	for _, s := range goodPlates() {
		q := impl.NegativePicture(s.picture)
		wantInt(t, "the width of the negative: "+s.name, q.Width, s.picture.Width)
		for i, ink := range s.picture.Ink {
			wantInt(t, "negative of "+s.name, q.Ink[i], 1-ink)
		}
		wantPicture(t, "negative of the negative of "+s.name, impl.NegativePicture(q), s.picture)
	}
}

func TestNegativePictureOfPlatesAndPictures(t *testing.T) {
	wantPicture(t, "a plate", impl.NegativePicture(pictureOf(3, 1, 0, 1, 0)), pictureOf(3, 1, 1, 0, 1))
	wantPicture(t, "an empty plate", impl.NegativePicture(pictureOf(2, 1, 0, 0)), pictureOf(2, 1, 1, 1))
	wantPicture(t, "a single 2 makes it no plate", impl.NegativePicture(pictureOf(3, 1, 0, 1, 2)), pictureOf(3, 1, 255, 254, 253))
	wantPicture(t, "a full picture becomes a plate", impl.NegativePicture(pictureOf(2, 1, 255, 255)), pictureOf(2, 1, 0, 0))
}

func TestChangesOfNoPicture(t *testing.T) {
	for _, s := range badPictures() {
		wantPicture(t, "MirrorPicture of "+s.name, impl.MirrorPicture(s.picture), impl.Picture{})
		wantPicture(t, "TurnPicture of "+s.name, impl.TurnPicture(s.picture), impl.Picture{})
		wantPicture(t, "NegativePicture of "+s.name, impl.NegativePicture(s.picture), impl.Picture{})
		q, ok := impl.CropPicture(s.picture, 0, 0, 1, 1)
		wantRefused(t, "CropPicture of "+s.name, q, ok)
		q, ok = impl.TilePicture(s.picture, 1, 1)
		wantRefused(t, "TilePicture of "+s.name, q, ok)
	}
}

// cropByPoints collects the part point by point; it is false where a point is outside.
func cropByPoints(p impl.Picture, x, y, width, height int) (impl.Picture, bool) {
	part := pictureOf(width, height)
	for j := y; j < y+height; j++ {
		for i := x; i < x+width; i++ {
			if i < 0 || j < 0 || i >= p.Width || j >= p.Height {
				return impl.Picture{}, false
			}
			part.Ink = append(part.Ink, p.Ink[j*p.Width+i])
		}
	}
	return part, len(part.Ink) > 0
}

func wantCropped(t *testing.T, p impl.Picture, x, y, width, height int) {
	t.Helper()
	what := "the part of " + sizeName(width, height) + " " + pointName(x, y)
	got, ok := impl.CropPicture(p, x, y, width, height)
	want, fine := cropByPoints(p, x, y, width, height)
	if !fine {
		wantRefused(t, what, got, ok)
		return
	}
	wantPictureOk(t, what, got, ok, want)
}

func TestCropPicture(t *testing.T) {
	for _, p := range []impl.Picture{noisePicture(5, 4, 255), noisePicture(1, 3, 255), noisePicture(3, 1, 1)} {
		for x := -2; x <= p.Width+1; x++ {
			for y := -2; y <= p.Height+1; y++ {
				for width := -1; width <= p.Width+2; width++ {
					for height := -1; height <= p.Height+2; height++ {
						wantCropped(t, p, x, y, width, height)
					}
				}
			}
		}
	}
}

func TestCropPictureAtTheBorder(t *testing.T) {
	for _, s := range picturesAndPlates() {
		p := s.picture
		wantCropped(t, p, 0, 0, p.Width, p.Height)
		wantCropped(t, p, 0, 0, p.Width+1, p.Height)
		wantCropped(t, p, 0, 0, p.Width, p.Height+1)
		wantCropped(t, p, p.Width-1, p.Height-1, 1, 1)
		wantCropped(t, p, p.Width-1, p.Height-1, 2, 1)
		wantCropped(t, p, p.Width-1, p.Height-1, 1, 2)
		wantCropped(t, p, p.Width, 0, 1, 1)
		wantCropped(t, p, 0, p.Height, 1, 1)
		wantCropped(t, p, p.Width/2, p.Height/2, p.Width-p.Width/2, p.Height-p.Height/2)
	}
}

func TestCropPictureOfExtremeParts(t *testing.T) {
	p := noisePicture(3, 3, 255)
	inside := func(start, length int) bool {
		return start >= 0 && start < 3 && length >= 1 && length <= 3 && start+length <= 3
	}
	for _, start := range extremes {
		for _, length := range extremes {
			if inside(start, length) {
				continue
			}
			q, ok := impl.CropPicture(p, start, 0, length, 1)
			wantRefused(t, "across", q, ok)
			q, ok = impl.CropPicture(p, 0, start, 1, length)
			wantRefused(t, "down", q, ok)
			q, ok = impl.CropPicture(p, start, start, length, length)
			wantRefused(t, "both", q, ok)
		}
	}
}

func TestTilePicture(t *testing.T) {
	for _, p := range []impl.Picture{noisePicture(5, 4, 255), noisePicture(1, 1, 255), noisePicture(2, 3, 1), noisePicture(64, 16, 255)} {
		for width := -1; width <= 66; width++ {
			for height := -1; height <= 66; height++ {
				what := sizeName(p.Width, p.Height) + " in tiles to " + sizeName(width, height)
				q, ok := impl.TilePicture(p, width, height)
				if !isSizeOfPicture(width, height) {
					wantRefused(t, what, q, ok)
					continue
				}
				want := pictureOf(width, height)
				for y := range height {
					for x := range width {
						want.Ink = append(want.Ink, p.Ink[y%p.Height*p.Width+x%p.Width])
					}
				}
				wantPictureOk(t, what, q, ok, want)
			}
		}
	}
}

// TestAmountsStay is promise P1: the same amounts, each as often as before.
func TestAmountsStay(t *testing.T) {
	for _, s := range picturesAndPlates() {
		p := s.picture
		wantSameCounts(t, "turned "+s.name, impl.TurnPicture(p), p, 1)
		wantSameCounts(t, "mirrored "+s.name, impl.MirrorPicture(p), p, 1)
		whole, ok := impl.CropPicture(p, 0, 0, p.Width, p.Height)
		wantPictureOk(t, "the whole of "+s.name, whole, ok, p)
		if q, ok := impl.TilePicture(p, 2*p.Width, 2*p.Height); ok {
			wantSameCounts(t, "four tiles of "+s.name, q, p, 4)
			back, fine := impl.CropPicture(q, p.Width, p.Height, p.Width, p.Height)
			wantPictureOk(t, "the last of four tiles of "+s.name, back, fine, p)
		}
	}
}

func wantSameCounts(t *testing.T, what string, q, p impl.Picture, times int) {
	t.Helper()
	for ink := 0; ink <= 255; ink++ {
		wantInt(t, what, impl.CountInk(q, ink), times*impl.CountInk(p, ink))
	}
	wantInt(t, what, impl.SumInk(q), times*impl.SumInk(p))
}

// TestPartsAddUp cuts pictures into rows, columns and points.
func TestPartsAddUp(t *testing.T) {
	for _, s := range picturesAndPlates() {
		p := s.picture
		rows, columns, points := 0, 0, 0
		for y := range p.Height {
			q, _ := impl.CropPicture(p, 0, y, p.Width, 1)
			rows += impl.SumInk(q)
		}
		for x := range p.Width {
			q, _ := impl.CropPicture(p, x, 0, 1, p.Height)
			columns += impl.SumInk(q)
		}
		for i := range p.Ink {
			q, _ := impl.CropPicture(p, i%p.Width, i/p.Width, 1, 1)
			points += impl.SumInk(q)
		}
		wantInt(t, "the rows of "+s.name, rows, impl.SumInk(p))
		wantInt(t, "the columns of "+s.name, columns, impl.SumInk(p))
		wantInt(t, "the points of "+s.name, points, impl.SumInk(p))
	}
}

// TestTurnsAndMirrorsAgree checks that two turns and two mirrors undo each other: a mirrored picture that is turned to the left is turned to the right.
func TestTurnsAndMirrorsAgree(t *testing.T) {
	for _, s := range picturesAndPlates() {
		p := s.picture
		q := impl.TurnPicture(impl.MirrorPicture(impl.TurnPicture(impl.MirrorPicture(p))))
		wantPicture(t, "mirrored and turned twice: "+s.name, q, p)
	}
}
