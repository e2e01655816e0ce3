package tests

import (
	"math"
	"strconv"
	"testing"

	"loop.example/g03229/impl"
)

func TestConstantsOfPictures(t *testing.T) {
	wantInt(t, "MaxSide", impl.MaxSide, 64)
	wantInt(t, "MaxArea", impl.MaxArea, 1024)
	wantInt(t, "Full", impl.Full, 255)
}

func TestIsPictureOfEachSize(t *testing.T) {
	list := make([]int, 66*66+1)
	for width := -2; width <= 66; width++ {
		for height := -2; height <= 66; height++ {
			what := "IsPicture " + sizeName(width, height)
			area := max(width*height, 0)
			want := isSizeOfPicture(width, height)
			wantBool(t, what, impl.IsPicture(pictureOf(width, height, list[:area]...)), want)
			wantBool(t, what+" as a plate", impl.IsPlate(pictureOf(width, height, list[:area]...)), want)
			wantBool(t, what+" with a longer list", impl.IsPicture(pictureOf(width, height, list[:area+1]...)), false)
			if area > 0 {
				wantBool(t, what+" with a shorter list", impl.IsPicture(pictureOf(width, height, list[:area-1]...)), false)
			}
		}
	}
}

func TestIsPictureOfExtremeSizes(t *testing.T) {
	for _, width := range extremes {
		for _, height := range extremes {
			// The product may wrap around to the length of one of these lists.
			for _, length := range []int{0, 1, 2, 3, 4, 64, 128} {
				p := pictureOf(width, height, make([]int, length)...)
				want := isSizeOfPicture(width, height) && width*height == length
				wantBool(t, "IsPicture "+sizeName(width, height), impl.IsPicture(p), want)
				wantBool(t, "IsPlate "+sizeName(width, height), impl.IsPlate(p), want)
			}
		}
	}
}

func TestIsPictureOfEachAmount(t *testing.T) {
	amounts := []int{-2, -1, 0, 1, 2, 254, 255, 256, 257}
	for _, amount := range append(amounts, extremes...) {
		for place := range 6 {
			p := pictureOf(3, 2, 0, 0, 0, 0, 0, 0)
			p.Ink[place] = amount
			what := strconv.Itoa(amount) + " at " + strconv.Itoa(place)
			wantBool(t, "IsPicture with "+what, impl.IsPicture(p), amount >= 0 && amount <= 255)
			wantBool(t, "IsPlate with "+what, impl.IsPlate(p), amount == 0 || amount == 1)
		}
	}
}

func TestIsPictureAndIsPlateOfSamples(t *testing.T) {
	for _, s := range goodPictures() {
		wantBool(t, "IsPicture of "+s.name, impl.IsPicture(s.picture), true)
		wantBool(t, "IsPlate of "+s.name, impl.IsPlate(s.picture), false)
	}
	for _, s := range goodPlates() {
		wantBool(t, "IsPicture of "+s.name, impl.IsPicture(s.picture), true)
		wantBool(t, "IsPlate of "+s.name, impl.IsPlate(s.picture), true)
	}
	for _, s := range badPictures() {
		wantBool(t, "IsPicture of "+s.name, impl.IsPicture(s.picture), false)
		wantBool(t, "IsPlate of "+s.name, impl.IsPlate(s.picture), false)
	}
}

func TestInkAt(t *testing.T) {
	for _, s := range picturesAndPlates() {
		p := s.picture
		for y := -2; y <= p.Height+1; y++ {
			for x := -2; x <= p.Width+1; x++ {
				want := -1
				if x >= 0 && x < p.Width && y >= 0 && y < p.Height {
					want = p.Ink[y*p.Width+x]
				}
				wantInt(t, "InkAt "+pointName(x, y)+" of "+s.name, impl.InkAt(p, x, y), want)
			}
		}
	}
}

func TestInkAtOutside(t *testing.T) {
	p := pictureOf(2, 2, 10, 20, 30, 40)
	for _, n := range extremes {
		if n >= 0 && n < 2 {
			continue
		}
		for _, inside := range []int{0, 1} {
			wantInt(t, "InkAt "+pointName(n, inside), impl.InkAt(p, n, inside), -1)
			wantInt(t, "InkAt "+pointName(inside, n), impl.InkAt(p, inside, n), -1)
		}
		wantInt(t, "InkAt "+pointName(n, n), impl.InkAt(p, n, n), -1)
		wantInt(t, "InkAt "+pointName(n, -n), impl.InkAt(p, n, -n), -1)
	}
	for _, s := range badPictures() {
		wantInt(t, "InkAt of "+s.name, impl.InkAt(s.picture, 0, 0), -1)
	}
}

func TestFlatPicture(t *testing.T) {
	for width := -1; width <= 66; width++ {
		for height := -1; height <= 66; height++ {
			p, ok := impl.FlatPicture(width, height, 9)
			if !isSizeOfPicture(width, height) {
				wantRefused(t, "FlatPicture "+sizeName(width, height), p, ok)
				continue
			}
			want := pictureOf(width, height, make([]int, width*height)...)
			fillAll(want.Ink, 9)
			wantPictureOk(t, "FlatPicture "+sizeName(width, height), p, ok, want)
		}
	}
}

func TestFlatPictureOfEachAmount(t *testing.T) {
	for ink := 0; ink <= 255; ink++ {
		p, ok := impl.FlatPicture(2, 3, ink)
		wantPictureOk(t, "FlatPicture with "+strconv.Itoa(ink), p, ok, pictureOf(2, 3, ink, ink, ink, ink, ink, ink))
	}
	for _, ink := range append([]int{-2, 257, 300}, extremes...) {
		if ink >= 0 && ink <= 255 {
			continue
		}
		p, ok := impl.FlatPicture(2, 3, ink)
		wantRefused(t, "FlatPicture with "+strconv.Itoa(ink), p, ok)
	}
}

func TestRampPicture(t *testing.T) {
	for width := -1; width <= 66; width++ {
		for height := -1; height <= 66; height++ {
			p, ok := impl.RampPicture(width, height)
			if !isSizeOfPicture(width, height) {
				wantRefused(t, "RampPicture "+sizeName(width, height), p, ok)
				continue
			}
			want := pictureOf(width, height)
			for range height {
				for x := range width {
					want.Ink = append(want.Ink, rampAmount(x, width))
				}
			}
			wantPictureOk(t, "RampPicture "+sizeName(width, height), p, ok, want)
		}
	}
}

// rampAmount looks for the greatest amount that is not above x * 255 / (width - 1).
func rampAmount(x, width int) int {
	amount := 0
	for width > 1 && (amount+1)*(width-1) <= x*255 {
		amount++
	}
	return amount
}

func TestRampPictureExamples(t *testing.T) {
	p, ok := impl.RampPicture(1, 3)
	wantPictureOk(t, "a width of 1", p, ok, pictureOf(1, 3, 0, 0, 0))
	p, ok = impl.RampPicture(2, 2)
	wantPictureOk(t, "a width of 2", p, ok, pictureOf(2, 2, 0, 255, 0, 255))
	p, ok = impl.RampPicture(5, 1)
	wantPictureOk(t, "amounts rounded down", p, ok, pictureOf(5, 1, 0, 63, 127, 191, 255))
}

func TestSizesThatAreNone(t *testing.T) {
	for _, width := range extremes {
		for _, height := range extremes {
			if isSizeOfPicture(width, height) {
				continue
			}
			size := sizeName(width, height)
			p, ok := impl.FlatPicture(width, height, 0)
			wantRefused(t, "FlatPicture "+size, p, ok)
			p, ok = impl.RampPicture(width, height)
			wantRefused(t, "RampPicture "+size, p, ok)
			p, ok = impl.TilePicture(pictureOf(1, 1, 5), width, height)
			wantRefused(t, "TilePicture "+size, p, ok)
		}
	}
}

func TestSumInk(t *testing.T) {
	for _, s := range picturesAndPlates() {
		want := 0
		for _, ink := range s.picture.Ink {
			want += ink
		}
		wantInt(t, "SumInk of "+s.name, impl.SumInk(s.picture), want)
	}
	full, _ := impl.FlatPicture(32, 32, 255)
	wantInt(t, "SumInk of the most ink", impl.SumInk(full), 261120)
	for _, s := range badPictures() {
		wantInt(t, "SumInk of "+s.name, impl.SumInk(s.picture), 0)
	}
}

func TestCountInk(t *testing.T) {
	for _, s := range picturesAndPlates() {
		want := map[int]int{}
		for _, ink := range s.picture.Ink {
			want[ink]++
		}
		for ink := -3; ink <= 258; ink++ {
			wantInt(t, "CountInk "+strconv.Itoa(ink)+" of "+s.name, impl.CountInk(s.picture, ink), want[ink])
		}
		wantInt(t, "CountInk of the least int in "+s.name, impl.CountInk(s.picture, math.MinInt), 0)
		wantInt(t, "CountInk of the greatest int in "+s.name, impl.CountInk(s.picture, math.MaxInt), 0)
	}
	for _, s := range badPictures() {
		for _, ink := range append([]int{0, 1}, s.picture.Ink...) {
			wantInt(t, "CountInk of "+s.name, impl.CountInk(s.picture, ink), 0)
		}
	}
}

func sizeName(width, height int) string {
	return strconv.Itoa(width) + " by " + strconv.Itoa(height)
}

func pointName(x, y int) string {
	return "at " + strconv.Itoa(x) + ", " + strconv.Itoa(y)
}
