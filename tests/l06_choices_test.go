package tests

import (
	"testing"

	"loop.example/g03229/impl"
)

func wantChoices(t *testing.T, what string, p impl.Picture, dot, void int) {
	t.Helper()
	wantInt(t, "the tightest dot of "+what, impl.TightestDot(p), dot)
	wantInt(t, "the widest void of "+what, impl.WidestVoid(p), void)
}

func TestChoicesInExamples(t *testing.T) {
	wantChoices(t, "one void", pictureOf(1, 1, 0), -1, 0)
	wantChoices(t, "one dot", pictureOf(1, 1, 1), 0, -1)
	wantChoices(t, "two dots and two voids", pictureOf(4, 1, 1, 1, 0, 0), 0, 2)
	wantChoices(t, "two dots and two voids, turned", pictureOf(4, 1, 0, 0, 1, 1), 2, 0)
	wantChoices(t, "two dots at the ends", pictureOf(4, 1, 1, 0, 0, 1), 0, 1)
	wantChoices(t, "a dot at the end", pictureOf(5, 1, 0, 0, 0, 0, 1), 4, 1)
	wantChoices(t, "a void at the end", pictureOf(5, 1, 1, 1, 1, 1, 0), 1, 4)
	wantChoices(t, "three dots in a row", pictureOf(7, 1, 0, 1, 1, 1, 0, 0, 0), 2, 5)
	wantChoices(t, "three dots in a column", pictureOf(1, 7, 0, 1, 1, 1, 0, 0, 0), 2, 5)
	wantChoices(t, "one dot in a corner", pictureOf(4, 4, 1, 0, 0, 0, 0, 0, 0, 0, 0, 0, 0, 0, 0, 0, 0, 0), 0, 10)
	wantChoices(t, "dots around the corner", pictureOf(3, 3, 1, 0, 1, 0, 0, 0, 1, 0, 0), 0, 4)
}

func TestChoicesAmongEqualCrowds(t *testing.T) {
	wantChoices(t, "no dots", filledPlate(5, 3, 0), -1, 0)
	wantChoices(t, "dots only", filledPlate(5, 3, 15), 0, -1)
	wantChoices(t, "the most points without a dot", filledPlate(16, 16, 0), -1, 0)
	wantChoices(t, "the most points with dots only", filledPlate(64, 4, 256), 0, -1)
	wantChoices(t, "every second dot", pictureOf(6, 1, 0, 1, 0, 1, 0, 1), 1, 0)
	wantChoices(t, "a chessboard", pictureOf(4, 2, 0, 1, 0, 1, 1, 0, 1, 0), 1, 0)
}

func TestChoices(t *testing.T) {
	for _, s := range allFields() {
		table := weightTable(s.picture.Width, s.picture.Height)
		wantChoices(t, s.name, s.picture, tightestByTable(table, s.picture.Ink), widestByTable(table, s.picture.Ink))
	}
}

// TestChoicesOfOnePoint has each dot and each void alone.
func TestChoicesOfOnePoint(t *testing.T) {
	for i := range 20 {
		alone := filledPlate(5, 4, 0)
		alone.Ink[i] = 1
		wantInt(t, "the only dot", impl.TightestDot(alone), i)
		wantInt(t, "the only void", impl.WidestVoid(impl.NegativePicture(alone)), i)
	}
}

// TestChoicesBeatTheOthers compares with the crowds that CrowdAt tells.
func TestChoicesBeatTheOthers(t *testing.T) {
	for _, s := range goodFields() {
		p := s.picture
		dot, void := impl.TightestDot(p), impl.WidestVoid(p)
		for i, ink := range p.Ink {
			crowd := impl.CrowdAt(p, i)
			if ink == 1 && (crowd > impl.CrowdAt(p, dot) || crowd == impl.CrowdAt(p, dot) && i < dot) {
				t.Errorf("%s: the dot %d is tighter than %d", s.name, i, dot)
			}
			if ink == 0 && (crowd < impl.CrowdAt(p, void) || crowd == impl.CrowdAt(p, void) && i < void) {
				t.Errorf("%s: the void %d is wider than %d", s.name, i, void)
			}
		}
	}
}
