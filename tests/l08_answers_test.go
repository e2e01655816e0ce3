package tests

import (
	"strings"
	"testing"

	"loop.example/g03229/impl"
)

func TestShow(t *testing.T) {
	d := smallDesk(pictureOf(3, 2, 1, 1, 1, 1, 1, 1), pictureOf(3, 2, 1, 0, 0, 0, 1, 1))
	wantKept(t, d, "show", "#../.##")
	row := deskOf(pictureOf(4, 1, 1, 2, 3, 4), matrixOf(1, 1, 0), pictureOf(4, 1, 0, 1, 0, 0))
	wantKept(t, row, "show", ".#..")
	column := deskOf(pictureOf(1, 4, 1, 2, 3, 4), matrixOf(1, 1, 0), pictureOf(1, 4, 0, 1, 0, 0))
	wantKept(t, column, "show", "./#/./.")
	wantKept(t, deskOf(pictureOf(1, 1, 1), matrixOf(1, 1, 0), pictureOf(1, 1, 1)), "show", "#")
	wantKept(t, deskOf(pictureOf(1, 1, 1), matrixOf(1, 1, 0), pictureOf(1, 1, 0)), "show", ".")
}

func TestRunsTold(t *testing.T) {
	wantKept(t, smallDesk(filledPlate(3, 2, 6), pictureOf(3, 2, 1, 0, 0, 0, 1, 1)), "runs", "0 1 3 2")
	wantKept(t, smallDesk(pictureOf(3, 2, 0, 0, 0, 0, 1, 1)), "runs", "4 2")
	wantKept(t, smallDesk(filledPlate(3, 2, 0)), "runs", "6")
	wantKept(t, smallDesk(filledPlate(3, 2, 6)), "runs", "0 6")
}

func TestMeanTold(t *testing.T) {
	wantKept(t, smallDesk(filledPlate(3, 2, 6), pictureOf(3, 2, 1, 0, 0, 0, 0, 0)), "mean", "1 6")
	wantKept(t, smallDesk(pictureOf(3, 2, 1, 0, 0, 0, 1, 0)), "mean", "1 3")
	wantKept(t, smallDesk(filledPlate(3, 2, 4)), "mean", "2 3")
	wantKept(t, smallDesk(filledPlate(3, 2, 0)), "mean", "0 1")
	wantKept(t, smallDesk(filledPlate(3, 2, 6)), "mean", "1 1")
}

func TestCountsTold(t *testing.T) {
	a, b, c := pictureOf(3, 2, 1, 0, 1, 0, 0, 0), pictureOf(3, 2, 1, 1, 0, 0, 0, 0), filledPlate(3, 2, 6)
	wantKept(t, smallDesk(a), "counts", "4 2")
	wantKept(t, smallDesk(a, b), "counts", "3 1 1 1")
	wantKept(t, smallDesk(a, b, c), "counts", "0 0 0 0 3 1 1 1")
	wantKept(t, smallDesk(c, a, b), "counts", "0 3 0 1 0 1 0 1")
	wantKept(t, smallDesk(a, b, c, filledPlate(3, 2, 0)), "counts", "0 0 0 0 3 1 1 1 0 0 0 0 0 0 0 0")
}

func TestErrorTold(t *testing.T) {
	d := deskOf(pictureOf(2, 2, 0, 10, 250, 255), matrixOf(1, 1, 0))
	wantKept(t, withPlates(d, pictureOf(2, 2, 0, 0, 1, 1)), "error", "125")
	wantKept(t, withPlates(d, pictureOf(2, 2, 0, 0, 1, 1), pictureOf(2, 2, 0, 1, 1, 1)), "error", "60050")
	exact := deskOf(pictureOf(2, 1, 0, 255), matrixOf(1, 1, 0))
	wantKept(t, withPlates(exact, pictureOf(2, 1, 0, 1)), "error", "0")
	wantKept(t, withPlates(exact, pictureOf(2, 1, 1, 0)), "error", "130050")
	wide, _ := impl.FlatPicture(64, 16, 255)
	wantKept(t, deskOf(wide, matrixOf(1, 1, 0), filledPlate(64, 16, 0)), "error", "66585600")
}

// TestAnswersOfAllPlates compares what is told of a plate with the text and the points of the plate.
func TestAnswersOfAllPlates(t *testing.T) {
	for _, s := range allPlates() {
		p := s.picture
		flat, _ := impl.FlatPicture(p.Width, p.Height, 100)
		d := deskOf(flat, matrixOf(1, 1, 0), filledPlate(p.Width, p.Height, 1), p)
		_, shown := impl.RunLine(d, "show")
		wantPlateOfText(t, s.name, shown, p)
		dots := countOf(p.Ink, 1)
		wantKept(t, d, "error", number(dots*155*155+(len(p.Ink)-dots)*100*100))
		_, runs := impl.RunLine(d, "runs")
		lengths, ok := numbersByPattern(strings.Split(runs, " "))
		wantBool(t, s.name+": the runs are numbers", ok, true)
		wantInts(t, s.name+": the runs", lengths, impl.RunsOf(p)...)
		others := dots - p.Ink[0]
		wantKept(t, d, "counts", spaced([]int{len(p.Ink) - 1 - others, 1 - p.Ink[0], others, p.Ink[0]}))
	}
}

// wantPlateOfText reads the rows of a text that was told in one line.
func wantPlateOfText(t *testing.T, what, text string, p impl.Picture) {
	t.Helper()
	rows := strings.Split(text, "/")
	wantInt(t, what+": the rows", len(rows), p.Height)
	for y, row := range rows {
		wantInt(t, what+": the length of a row", len(row), p.Width)
		for x := range row {
			wantBool(t, what+": a dot", row[x] == '#', p.Ink[y*p.Width+x] == 1)
			wantBool(t, what+": no dot", row[x] == '.', p.Ink[y*p.Width+x] == 0)
		}
	}
}

// TestQuestionsChangeNothing asks each desk everything.
func TestQuestionsChangeNothing(t *testing.T) {
	for _, s := range goodDesks() {
		for _, line := range []string{"show", "runs", "mean", "counts", "error", "level 0", "level 100", "level 255", "level 256", "level -1"} {
			after, answer := impl.RunLine(s.desk, line)
			wantDesk(t, line+" with "+s.name, after, s.desk)
			wantBool(t, line+" with "+s.name+": there is an answer", answer != "", true)
			wantBool(t, line+" with "+s.name+": the answer is one line", strings.Contains(answer, "\n"), false)
		}
	}
}
