package tests

import (
	"testing"

	"loop.example/g03229/impl"
)

func TestScreen(t *testing.T) {
	d := smallDesk()
	// The levels of the points are 0, 1, 3, 5, 6 and 6.
	plate := pictureOf(3, 2, 0, 1, 0, 1, 1, 1)
	one := withPlates(d, plate)
	wantRun(t, d, "screen", "ok", one)
	wantRun(t, one, "screen", "ok", withPlates(d, plate, plate))
	other := withMatrix(one, matrixOf(1, 1, 0))
	wantRun(t, other, "screen", "ok", withPlates(other, plate, pictureOf(3, 2, 0, 0, 1, 1, 1, 1)))
}

func TestDiffuse(t *testing.T) {
	d := deskOf(pictureOf(3, 2, 100, 100, 100, 100, 100, 100), matrixOf(1, 1, 0))
	first := withPlates(d, pictureOf(3, 2, 0, 1, 0, 0, 1, 0))
	wantRun(t, d, "diffuse plain left", "90", first)
	wantRun(t, d, "diffuse plain both", "90", first)
	steep := deskOf(pictureOf(3, 2, 100, 100, 100, 255, 0, 0), matrixOf(1, 1, 0))
	wantRun(t, steep, "diffuse plain left", "45", withPlates(steep, pictureOf(3, 2, 0, 1, 0, 1, 0, 0)))
	wantRun(t, steep, "diffuse plain both", "45", withPlates(steep, pictureOf(3, 2, 0, 1, 0, 1, 0, 0)))
	turned := deskOf(pictureOf(3, 2, 0, 0, 0, 100, 100, 20), matrixOf(1, 1, 0))
	wantRun(t, turned, "diffuse plain left", "-35", withPlates(turned, pictureOf(3, 2, 0, 0, 0, 0, 1, 0)))
	wantRun(t, turned, "diffuse plain both", "-35", withPlates(turned, pictureOf(3, 2, 0, 0, 0, 1, 0, 0)))
}

// TestDiffuseOnAllDesks compares the plates and the sums with the second way of chapter 5.
func TestDiffuseOnAllDesks(t *testing.T) {
	for _, s := range diffusionPictures() {
		for name, kernel := range map[string][]impl.Part{
			"stein": {partOf(1, 0, 7), partOf(-1, 1, 3), partOf(0, 1, 5), partOf(1, 1, 1)},
			"plain": {partOf(1, 0, 1)},
		} {
			for way, alternating := range map[string]bool{"left": false, "both": true} {
				d := deskOf(s.picture, matrixOf(1, 1, 0))
				want := diffusedByPulling(kernel, s.picture, alternating)
				wantRun(t, d, "diffuse "+name+" "+way, number(want.lost), withPlates(d, want.plate))
			}
		}
	}
}

func TestFullDesk(t *testing.T) {
	for _, s := range goodDesks() {
		for _, line := range []string{"screen", "diffuse stein left", "diffuse stein both", "diffuse plain left", "diffuse plain both"} {
			d := s.desk
			for plates := len(d.Plates); plates < 4; plates++ {
				after, answer := impl.RunLine(d, line)
				wantBool(t, line+" on a desk that is not full yet", answer != "full", true)
				wantDesk(t, line+" and the plates before", withPlates(after, after.Plates[:plates]...), d)
				wantInt(t, line+": the number of plates", len(after.Plates), plates+1)
				d = after
			}
			wantKept(t, d, line, "full")
		}
	}
}

func TestFullDeskAndBadWords(t *testing.T) {
	dot := pictureOf(1, 1, 1)
	d := deskOf(pictureOf(1, 1, 9), matrixOf(1, 1, 0), dot, dot, dot, dot)
	for _, line := range []string{"screen ", "screen 1", "diffuse", "diffuse stein", "diffuse stein up", "diffuse other left", "diffuse left stein", "diffuse stein left left"} {
		wantKept(t, d, line, "what")
	}
}

func TestChangesOfTheLastPlate(t *testing.T) {
	dot, other := pictureOf(5, 1, 1, 0, 0, 0, 0), pictureOf(5, 1, 1, 1, 1, 0, 1)
	d := deskOf(pictureOf(5, 1, 9, 8, 7, 6, 5), matrixOf(1, 1, 0))
	wantRun(t, withPlates(d, dot), "grow", "ok", withPlates(d, pictureOf(5, 1, 1, 1, 0, 0, 1)))
	wantRun(t, withPlates(d, dot), "shrink", "ok", withPlates(d, pictureOf(5, 1, 0, 0, 0, 0, 0)))
	wantRun(t, withPlates(d, dot), "mirror", "ok", withPlates(d, pictureOf(5, 1, 0, 0, 0, 0, 1)))
	wantRun(t, withPlates(d, dot, other), "grow", "ok", withPlates(d, dot, pictureOf(5, 1, 1, 1, 1, 1, 1)))
	wantRun(t, withPlates(d, dot, other), "shrink", "ok", withPlates(d, dot, pictureOf(5, 1, 1, 1, 0, 0, 0)))
	wantRun(t, withPlates(d, dot, other), "mirror", "ok", withPlates(d, dot, pictureOf(5, 1, 1, 0, 1, 1, 1)))
	wantRun(t, withPlates(d, dot, dot, dot, other), "mirror", "ok", withPlates(d, dot, dot, dot, pictureOf(5, 1, 1, 0, 1, 1, 1)))
}

func TestDrop(t *testing.T) {
	dot, other := pictureOf(2, 1, 1, 0), pictureOf(2, 1, 0, 1)
	d := deskOf(pictureOf(2, 1, 9, 8), matrixOf(1, 1, 0))
	wantRun(t, withPlates(d, dot), "drop", "ok", d)
	wantRun(t, withPlates(d, dot, other), "drop", "ok", withPlates(d, dot))
	wantRun(t, withPlates(d, dot, other, dot, other), "drop", "ok", withPlates(d, dot, other, dot))
	wantKept(t, d, "drop", "none")
}

func TestNoPlate(t *testing.T) {
	for _, s := range goodDesks() {
		for _, line := range []string{"grow", "shrink", "mirror", "drop", "show", "runs", "mean", "counts", "error"} {
			wantKept(t, withPlates(s.desk), line, "none")
			d := withPlates(s.desk)
			d.Plates = []impl.Picture{}
			wantKept(t, d, line, "none")
		}
	}
}

// TestPlatesTakenAwayAndLaidAnew goes from an empty desk to a full one and back, and on.
func TestPlatesTakenAwayAndLaidAnew(t *testing.T) {
	screened, diffused := pictureOf(3, 2, 0, 1, 0, 1, 1, 1), pictureOf(3, 2, 0, 0, 1, 1, 1, 1)
	mirrored := pictureOf(3, 2, 1, 0, 0, 1, 1, 1)
	d := smallDesk()
	for _, s := range []struct {
		line, answer string
		plates       []impl.Picture
	}{
		{"screen", "ok", stackOf(screened)},
		{"drop", "ok", nil},
		{"drop", "none", nil},
		{"diffuse plain left", "-123", stackOf(diffused)},
		{"mirror", "ok", stackOf(mirrored)},
		{"screen", "ok", stackOf(mirrored, screened)},
		{"screen", "ok", stackOf(mirrored, screened, screened)},
		{"grow", "ok", stackOf(mirrored, screened, filledPlate(3, 2, 6))},
		{"screen", "ok", stackOf(mirrored, screened, filledPlate(3, 2, 6), screened)},
		{"screen", "full", stackOf(mirrored, screened, filledPlate(3, 2, 6), screened)},
		{"drop", "ok", stackOf(mirrored, screened, filledPlate(3, 2, 6))},
		{"shrink", "ok", stackOf(mirrored, screened, filledPlate(3, 2, 6))},
		{"drop", "ok", stackOf(mirrored, screened)},
		{"shrink", "ok", stackOf(mirrored, pictureOf(3, 2, 0, 0, 0, 0, 1, 0))},
		{"drop", "ok", stackOf(mirrored)},
		{"drop", "ok", nil},
		{"show", "none", nil},
		{"screen", "ok", stackOf(screened)},
		{"show", ".#./###", stackOf(screened)},
	} {
		wantRun(t, d, s.line, s.answer, withPlates(d, s.plates...))
		d, _ = impl.RunLine(d, s.line)
	}
}
