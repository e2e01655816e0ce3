package tests

import (
	"testing"

	"loop.example/g03229/impl"
)

func TestNewDesk(t *testing.T) {
	d := impl.NewDesk()
	wantDesk(t, "the new desk", d, deskOf(pictureOf(1, 1, 0), matrixOf(1, 1, 0)))
	wantInt(t, "the number of plates", len(d.Plates), 0)
	wantBool(t, "the new desk", impl.DeskOk(d), true)
}

func TestNewDeskIsNewMemory(t *testing.T) {
	first, second := impl.NewDesk(), impl.NewDesk()
	fillAll(first.Picture.Ink, 99)
	fillAll(first.Matrix.Ranks, 99)
	wantDesk(t, "the second desk", second, deskOf(pictureOf(1, 1, 0), matrixOf(1, 1, 0)))
	wantDesk(t, "the third desk", impl.NewDesk(), second)
	fillAll(second.Picture.Ink, 98)
	wantInts(t, "the ranks beside the picture", second.Matrix.Ranks, 0)
}

func TestGoodDesks(t *testing.T) {
	for _, s := range goodDesks() {
		wantBool(t, s.name, impl.DeskOk(s.desk), true)
	}
}

func TestBadDesks(t *testing.T) {
	for _, s := range badDesks() {
		wantBool(t, s.name, impl.DeskOk(s.desk), false)
	}
}

func TestMaxScript(t *testing.T) {
	wantInt(t, "MaxScript", impl.MaxScript, 40)
}

// TestStacksOnDesks lays every stack beside a picture of its size, and beside others.
func TestStacksOnDesks(t *testing.T) {
	for _, s := range goodStacks() {
		width, height := s.plates[0].Width, s.plates[0].Height
		flat, _ := impl.FlatPicture(width, height, 200)
		wantBool(t, s.name, impl.DeskOk(deskOf(flat, countedMatrix(3, 1), s.plates...)), true)
		wantBool(t, s.name+" with a bad matrix", impl.DeskOk(deskOf(flat, matrixOf(2, 1, 1, 1), s.plates...)), false)
		for _, other := range goodPictures() {
			isSame := other.picture.Width == width && other.picture.Height == height
			d := deskOf(other.picture, countedMatrix(2, 2), s.plates...)
			wantBool(t, s.name+" beside "+other.name, impl.DeskOk(d), isSame)
		}
	}
}

// TestOneBadPlateOnDesk has a plate that is none in each place of the list.
func TestOneBadPlateOnDesk(t *testing.T) {
	for count := 1; count <= 4; count++ {
		for place := range count {
			for _, bad := range []impl.Picture{{}, pictureOf(2, 1, 0, 2), pictureOf(2, 1, -1, 0), pictureOf(1, 2, 1, 0), pictureOf(2, 1, 1), pictureOf(2, 1, 1, 0, 0)} {
				plates := make([]impl.Picture, count)
				for i := range plates {
					plates[i] = pictureOf(2, 1, 1, 0)
				}
				d := deskOf(pictureOf(2, 1, 255, 0), matrixOf(1, 1, 0), plates...)
				wantBool(t, number(count)+" plates", impl.DeskOk(d), true)
				plates[place] = bad
				wantBool(t, number(count)+" plates with a bad one", impl.DeskOk(d), false)
			}
		}
	}
}

// TestBadDesksKeepAll gives desks that are not valid lines of every kind.
func TestBadDesksKeepAll(t *testing.T) {
	lines := append(allLines(), "", " ", "  ", "what", "flat", "flat 1 1", "level 007", "SCREEN", "screen\n", "\n", "\x00", "\xff", "level 9223372036854775808")
	for _, s := range badDesks() {
		for _, line := range lines {
			wantKept(t, s.desk, line, "bad")
		}
	}
}

func TestEmptyLine(t *testing.T) {
	for _, s := range goodDesks() {
		wantKept(t, s.desk, "", "")
	}
}

// TestDesksStayValid performs each line on each desk.
func TestDesksStayValid(t *testing.T) {
	for _, s := range goodDesks() {
		for _, line := range allLines() {
			after, _ := impl.RunLine(s.desk, line)
			wantBool(t, shortLine(line)+" with "+s.name, impl.DeskOk(after), true)
		}
	}
}

// TestLinesByWords compares each line on each desk with a second way.
func TestLinesByWords(t *testing.T) {
	for _, s := range goodDesks() {
		for _, line := range allLines() {
			wantSameRun(t, s.desk, line)
		}
	}
}
