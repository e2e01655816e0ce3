package tests

import (
	"math"
	"testing"

	"loop.example/g03229/impl"
)

func TestSamePicture(t *testing.T) {
	all := append(picturesAndPlates(), badPictures()...)
	for i, a := range all {
		for k, b := range all {
			what := a.name + " and " + b.name
			wantBool(t, what, impl.SamePicture(a.picture, roomyCopy(b.picture)), i == k)
		}
	}
}

func TestSamePictureLooksAtAllParts(t *testing.T) {
	p := pictureOf(3, 2, 1, 2, 3, 4, 5, 6)
	for i := range p.Ink {
		q := roomyCopy(p)
		q.Ink[i]++
		wantBool(t, "another amount", impl.SamePicture(p, q), false)
		wantBool(t, "another amount, the other way", impl.SamePicture(q, p), false)
	}
	wantBool(t, "exchanged sides", impl.SamePicture(p, pictureOf(2, 3, p.Ink...)), false)
	wantBool(t, "another width", impl.SamePicture(p, pictureOf(4, 2, p.Ink...)), false)
	wantBool(t, "another height", impl.SamePicture(p, pictureOf(3, 3, p.Ink...)), false)
	wantBool(t, "a shorter list", impl.SamePicture(p, pictureOf(3, 2, p.Ink[:5]...)), false)
	wantBool(t, "a longer list", impl.SamePicture(p, pictureOf(3, 2, 1, 2, 3, 4, 5, 6, 0)), false)
}

func TestSamePictureOfNoPictures(t *testing.T) {
	wantBool(t, "zero values", impl.SamePicture(impl.Picture{}, impl.Picture{}), true)
	wantBool(t, "nil and empty", impl.SamePicture(pictureOf(0, 0), impl.Picture{Ink: []int{}}), true)
	wantBool(t, "nil and empty with sides", impl.SamePicture(pictureOf(-3, 7), impl.Picture{Width: -3, Height: 7, Ink: []int{}}), true)
	wantBool(t, "nil and a point", impl.SamePicture(pictureOf(1, 1), pictureOf(1, 1, 0)), false)
	wantBool(t, "extreme numbers", impl.SamePicture(pictureOf(math.MinInt, math.MaxInt, math.MinInt), pictureOf(math.MinInt, math.MaxInt, math.MinInt)), true)
	wantBool(t, "extreme numbers that differ", impl.SamePicture(pictureOf(math.MinInt, math.MaxInt, math.MinInt), pictureOf(math.MinInt, math.MaxInt, math.MaxInt)), false)
	wantBool(t, "amounts that are none", impl.SamePicture(pictureOf(1, 1, 256), pictureOf(1, 1, 256)), true)
}

func TestCoversPicture(t *testing.T) {
	p := pictureOf(2, 2, 5, 0, 255, 9)
	wantBool(t, "itself", impl.CoversPicture(p, p), true)
	for i := range p.Ink {
		less, more := roomyCopy(p), roomyCopy(p)
		less.Ink[i] = max(p.Ink[i]-1, 0)
		more.Ink[i] = min(p.Ink[i]+1, 255)
		wantBool(t, "less at a point", impl.CoversPicture(p, less), true)
		wantBool(t, "less at a point, the other way", impl.CoversPicture(less, p), p.Ink[i] == 0)
		wantBool(t, "more at a point", impl.CoversPicture(p, more), p.Ink[i] == 255)
		wantBool(t, "more at a point, the other way", impl.CoversPicture(more, p), true)
	}
	wantBool(t, "more here and less there", impl.CoversPicture(p, pictureOf(2, 2, 4, 1, 255, 9)), false)
	wantBool(t, "a plate over a plate", impl.CoversPicture(pictureOf(3, 1, 1, 0, 1), pictureOf(3, 1, 1, 0, 0)), true)
	wantBool(t, "a plate under a plate", impl.CoversPicture(pictureOf(3, 1, 1, 0, 0), pictureOf(3, 1, 1, 0, 1)), false)
}

func TestCoversPictureOfOtherSizes(t *testing.T) {
	row, column := pictureOf(4, 1, 0, 0, 0, 0), pictureOf(1, 4, 0, 0, 0, 0)
	square, wide := pictureOf(2, 2, 0, 0, 0, 0), pictureOf(4, 2, 0, 0, 0, 0, 0, 0, 0, 0)
	all := []impl.Picture{row, column, square, wide}
	for i, p := range all {
		for k, q := range all {
			wantBool(t, "sizes", impl.CoversPicture(p, q), i == k)
		}
	}
}

func TestPairsWithNoPicture(t *testing.T) {
	for _, s := range badPictures() {
		full := pictureOf(1, 1, 255)
		zero := pictureOf(1, 1, 0)
		wantBool(t, "CoversPicture by "+s.name, impl.CoversPicture(s.picture, zero), false)
		wantBool(t, "CoversPicture of "+s.name, impl.CoversPicture(full, s.picture), false)
		wantBool(t, "CoversPicture twice with "+s.name, impl.CoversPicture(s.picture, s.picture), false)
		q, ok := impl.AddPictures(s.picture, zero)
		wantRefused(t, "AddPictures to "+s.name, q, ok)
		q, ok = impl.AddPictures(zero, s.picture)
		wantRefused(t, "AddPictures of "+s.name, q, ok)
		q, ok = impl.AddPictures(s.picture, s.picture)
		wantRefused(t, "AddPictures twice with "+s.name, q, ok)
	}
}

// TestPairsWithOneBadAmount uses pictures of the same size, one of which has a single amount that is none.
func TestPairsWithOneBadAmount(t *testing.T) {
	good := pictureOf(2, 1, 0, 0)
	for _, amount := range []int{math.MinInt, -1, 256, math.MaxInt} {
		bad := pictureOf(2, 1, 0, amount)
		wantBool(t, "CoversPicture by a bad amount", impl.CoversPicture(bad, good), false)
		wantBool(t, "CoversPicture of a bad amount", impl.CoversPicture(good, bad), false)
		q, ok := impl.AddPictures(bad, good)
		wantRefused(t, "AddPictures to a bad amount", q, ok)
		q, ok = impl.AddPictures(good, bad)
		wantRefused(t, "AddPictures of a bad amount", q, ok)
	}
}

func TestAddPictures(t *testing.T) {
	q, ok := impl.AddPictures(pictureOf(3, 1, 1, 2, 3), pictureOf(3, 1, 10, 20, 30))
	wantPictureOk(t, "sums", q, ok, pictureOf(3, 1, 11, 22, 33))
	for a := 0; a <= 255; a++ {
		for b := 0; b <= 255; b++ {
			q, ok := impl.AddPictures(pictureOf(1, 2, a, b), pictureOf(1, 2, b, 0))
			want := a + b
			if want > 255 {
				want = 255
			}
			wantPictureOk(t, "a sum", q, ok, pictureOf(1, 2, want, b))
		}
	}
	q, ok = impl.AddPictures(pictureOf(2, 1, 1, 1), pictureOf(2, 1, 1, 0))
	wantPictureOk(t, "plates are pictures, too", q, ok, pictureOf(2, 1, 2, 1))
}

func TestAddPicturesOfOtherSizes(t *testing.T) {
	p := pictureOf(2, 3, 1, 2, 3, 4, 5, 6)
	for _, other := range []impl.Picture{pictureOf(3, 2, 1, 2, 3, 4, 5, 6), pictureOf(2, 2, 1, 2, 3, 4), pictureOf(6, 1, 1, 2, 3, 4, 5, 6), pictureOf(1, 3, 1, 2, 3)} {
		q, ok := impl.AddPictures(p, other)
		wantRefused(t, "another size", q, ok)
		q, ok = impl.AddPictures(other, p)
		wantRefused(t, "another size, the other way", q, ok)
	}
}

func TestAddPicturesOfLargePictures(t *testing.T) {
	for _, s := range picturesAndPlates() {
		p := s.picture
		empty, _ := impl.FlatPicture(p.Width, p.Height, 0)
		q, ok := impl.AddPictures(p, empty)
		wantPictureOk(t, "nothing added to "+s.name, q, ok, p)
		full, _ := impl.FlatPicture(p.Width, p.Height, 255)
		q, ok = impl.AddPictures(p, full)
		wantPictureOk(t, "all added to "+s.name, q, ok, full)
		wantBool(t, "the sum covers "+s.name, impl.CoversPicture(q, p), true)
	}
}
