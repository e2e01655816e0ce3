package tests

import (
	"testing"

	"loop.example/g03229/impl"
)

// maker is a function of chapter 2 that returns a picture, with the other arguments fixed.
type maker struct {
	name string
	make func(p impl.Picture) impl.Picture
}

func makers() []maker {
	return []maker{
		{"MirrorPicture", impl.MirrorPicture},
		{"TurnPicture", impl.TurnPicture},
		{"NegativePicture", impl.NegativePicture},
		{"CropPicture of all", func(p impl.Picture) impl.Picture {
			q, _ := impl.CropPicture(p, 0, 0, p.Width, p.Height)
			return q
		}},
		{"CropPicture of the last point", func(p impl.Picture) impl.Picture {
			q, _ := impl.CropPicture(p, p.Width-1, p.Height-1, 1, 1)
			return q
		}},
		{"TilePicture of its size", func(p impl.Picture) impl.Picture {
			q, _ := impl.TilePicture(p, p.Width, p.Height)
			return q
		}},
		{"TilePicture of the square area", func(p impl.Picture) impl.Picture {
			q, _ := impl.TilePicture(p, 32, 32)
			return q
		}},
		{"AddPictures to itself", func(p impl.Picture) impl.Picture {
			q, _ := impl.AddPictures(p, p)
			return q
		}},
		{"FlatPicture", func(p impl.Picture) impl.Picture {
			q, _ := impl.FlatPicture(p.Width, p.Height, 3)
			return q
		}},
		{"RampPicture", func(p impl.Picture) impl.Picture {
			q, _ := impl.RampPicture(p.Width, p.Height)
			return q
		}},
	}
}

func TestArgumentsAreNotModified(t *testing.T) {
	for _, s := range append(picturesAndPlates(), badPictures()...) {
		room, other := roomyCopy(s.picture), roomyCopy(s.picture)
		for _, m := range makers() {
			m.make(room)
			wantUntouched(t, m.name+" of "+s.name, room, s.picture)
		}
		impl.IsPicture(room)
		impl.IsPlate(room)
		impl.InkAt(room, 0, 0)
		impl.SumInk(room)
		impl.CountInk(room, 1)
		impl.SamePicture(room, other)
		impl.CoversPicture(room, other)
		impl.AddPictures(room, other)
		wantUntouched(t, "the first argument "+s.name, room, s.picture)
		wantUntouched(t, "the second argument "+s.name, other, s.picture)
	}
}

func TestResultsAreNewMemory(t *testing.T) {
	for _, s := range picturesAndPlates() {
		for _, m := range makers() {
			what := m.name + " of " + s.name
			room := roomyCopy(s.picture)
			result, again := m.make(room), m.make(room)
			fillAll(result.Ink, 99)
			wantUntouched(t, what, room, s.picture)
			wantPicture(t, what+": a second result", again, m.make(s.picture))
			fillAll(room.Ink, 98)
			wantPicture(t, what+": after a change of the argument", again, m.make(s.picture))
		}
	}
}

func TestSumsShareNoMemory(t *testing.T) {
	p, q := pictureOf(2, 2, 1, 2, 3, 4), pictureOf(2, 2, 0, 0, 0, 0)
	sum, _ := impl.AddPictures(p, q)
	fillAll(sum.Ink, 77)
	wantPicture(t, "the first argument of a sum", p, pictureOf(2, 2, 1, 2, 3, 4))
	wantPicture(t, "the second argument of a sum", q, pictureOf(2, 2, 0, 0, 0, 0))
}

func TestResultsDependOnArgumentsOnly(t *testing.T) {
	for _, m := range makers() {
		before := m.make(noisePicture(5, 4, 255))
		for _, s := range append(picturesAndPlates(), badPictures()...) {
			m.make(s.picture)
		}
		wantPicture(t, m.name+" later", m.make(noisePicture(5, 4, 255)), before)
	}
}

// TestNoPanic calls every function with numbers and pictures that fit together badly; a panic would end the test.
func TestNoPanic(t *testing.T) {
	for _, a := range extremes {
		for _, b := range extremes {
			for _, length := range []int{0, 1, 2, 4, 65} {
				callAll(pictureOf(a, b, make([]int, length)...), a, b)
			}
			callAll(noisePicture(2, 2, 255), a, b)
			callAll(pictureOf(1, 2, a, b), b, a)
		}
	}
}

func callAll(p impl.Picture, a, b int) {
	good := pictureOf(2, 2, 1, 2, 3, 4)
	impl.IsPicture(p)
	impl.IsPlate(p)
	impl.InkAt(p, a, b)
	impl.FlatPicture(a, b, a)
	impl.RampPicture(a, b)
	impl.SumInk(p)
	impl.CountInk(p, a)
	impl.MirrorPicture(p)
	impl.TurnPicture(p)
	impl.NegativePicture(p)
	impl.CropPicture(p, a, b, b, a)
	impl.CropPicture(p, a, b, a, b)
	impl.CropPicture(good, a, b, b, a)
	impl.TilePicture(p, a, b)
	impl.SamePicture(p, good)
	impl.CoversPicture(p, good)
	impl.CoversPicture(good, p)
	impl.AddPictures(p, good)
	impl.AddPictures(good, p)
}
