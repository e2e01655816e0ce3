package tests

import (
	"slices"
	"strings"
	"testing"

	"loop.example/g03229/impl"
)

func allDesks() []namedDesk {
	return append(goodDesks(), badDesks()...)
}

// linesOfAllKinds has those that are performed, those that are refused, and some that are no commands.
func linesOfAllKinds() []string {
	return append(allLines(), "", " ", "what", "level 007")
}

// deepDesk has the same numbers and no memory of d.
func deepDesk(d impl.Desk) impl.Desk {
	d.Picture.Ink = slices.Clone(d.Picture.Ink)
	d.Matrix.Ranks = slices.Clone(d.Matrix.Ranks)
	d.Plates = slices.Clone(d.Plates)
	for i := range d.Plates {
		d.Plates[i].Ink = slices.Clone(d.Plates[i].Ink)
	}
	return d
}

func TestDesksAreNotModified(t *testing.T) {
	for _, s := range allDesks() {
		room := roomyDesk(s.desk)
		for _, line := range linesOfAllKinds() {
			impl.RunLine(room, line)
			wantUntouchedDesk(t, shortLine(line)+" with "+s.name, room, s.desk)
		}
		impl.DeskOk(room)
		wantUntouchedDesk(t, s.name, room, s.desk)
	}
}

// fillDesk writes into all memory that the desk can reach.
func fillDesk(d impl.Desk) {
	fillAll(d.Picture.Ink, 99)
	fillAll(d.Matrix.Ranks, 99)
	plates := d.Plates[:cap(d.Plates)]
	for i := range plates {
		fillAll(plates[i].Ink, 99)
		plates[i] = impl.Picture{Width: 98, Height: 97}
	}
}

// TestDesksAreNewMemory writes into the desk afterwards, and then into the one that was given.
func TestDesksAreNewMemory(t *testing.T) {
	for _, s := range allDesks() {
		for _, line := range linesOfAllKinds() {
			what := shortLine(line) + " with " + s.name
			room := roomyDesk(s.desk)
			after, _ := impl.RunLine(room, line)
			again, answer := impl.RunLine(room, line)
			want := deepDesk(again)
			fillDesk(after)
			wantUntouchedDesk(t, what, room, s.desk)
			wantDesk(t, what+": a second result", again, want)
			fillDesk(room)
			wantDesk(t, what+": a second result without the desk", again, want)
			_, told := impl.RunLine(s.desk, line)
			wantAnswer(t, what, told, answer)
		}
	}
}

// TestListsOfADeskShareNoMemory writes into one list of the desk afterwards, and looks at the others.
func TestListsOfADeskShareNoMemory(t *testing.T) {
	for _, s := range allDesks() {
		for _, line := range linesOfAllKinds() {
			after, _ := impl.RunLine(s.desk, line)
			wantOwnLists(t, shortLine(line)+" with "+s.name, after)
		}
	}
}

func wantOwnLists(t *testing.T, what string, d impl.Desk) {
	t.Helper()
	lists := listsOf(d)
	for i := range lists {
		before := slices.Clone(lists[i])
		for k := range lists {
			if k != i {
				fillAll(lists[k], 1000+k)
			}
		}
		wantInts(t, what+": the list "+number(i), lists[i], before...)
	}
}

// TestDesksWhoseListsAreOne gives desks all of whose lists share memory.
func TestDesksWhoseListsAreOne(t *testing.T) {
	list := []int{1, 0, 0, 1, 1, 0}
	part := pictureOf(2, 1, list[0:2]...)
	for _, d := range []impl.Desk{
		deskOf(part, matrixOf(2, 1, list[0:2]...), part, part, part),
		deskOf(part, matrixOf(2, 1, list[0:2]...), part, pictureOf(2, 1, list[1:3]...), pictureOf(2, 1, list[2:4]...), pictureOf(2, 1, list[3:5]...)),
		deskOf(pictureOf(3, 2, list...), matrixOf(1, 2, list[4:6]...), pictureOf(3, 2, list...), pictureOf(3, 2, list...)),
		deskOf(pictureOf(3, 3, list...), matrixOf(3, 2, list...), part, part, part, part, part),
		deskOf(part, matrixOf(2, 2, list...), part, pictureOf(7, 7, list...)),
	} {
		before := deepDesk(d)
		for _, line := range linesOfAllKinds() {
			after, answer := runByWords(before, line)
			wantRun(t, d, line, answer, after)
			result, _ := impl.RunLine(d, line)
			wantOwnLists(t, shortLine(line), result)
			wantInts(t, shortLine(line)+": the list that was given", list, 1, 0, 0, 1, 1, 0)
		}
	}
}

// TestPlatesBehindTheList has a list of plates that is the beginning of a longer one.
func TestPlatesBehindTheList(t *testing.T) {
	dot := pictureOf(2, 1, 1, 0)
	plates := stackOf(dot, dot, dot, dot)
	for count := range 4 {
		d := deskOf(pictureOf(2, 1, 0, 255), matrixOf(1, 1, 0), plates[:count]...)
		for _, line := range []string{"screen", "diffuse stein left", "diffuse plain both"} {
			after, _ := impl.RunLine(d, line)
			wantPicture(t, line+": the new plate", after.Plates[count], pictureOf(2, 1, 0, 1))
			wantPicture(t, line+": the plate behind the list", plates[count], dot)
		}
	}
}

func TestNilListsOfADeskAreEmptyOnes(t *testing.T) {
	for _, line := range linesOfAllKinds() {
		with := deskOf(pictureOf(1, 1, 200), matrixOf(1, 1, 0))
		without := with
		with.Plates, without.Plates = []impl.Picture{}, nil
		after, answer := impl.RunLine(with, line)
		wantRun(t, without, line, answer, after)
	}
	empty := impl.Desk{Picture: pictureOf(0, 0, []int{}...), Matrix: matrixOf(0, 0, []int{}...), Plates: []impl.Picture{}}
	wantKept(t, empty, "show", "bad")
	wantBool(t, "an empty desk", impl.DeskOk(empty), false)
}

func TestAnswersDependOnArgumentsOnly(t *testing.T) {
	d := busyDesk()
	for _, line := range linesOfAllKinds() {
		before, answer := impl.RunLine(d, line)
		for _, other := range allDesks() {
			impl.RunLine(other.desk, line)
		}
		impl.RunScript("flat 4 4 9\nscreen\nscreen")
		wantRun(t, d, line, answer, before)
	}
	told, count := impl.RunScript("ramp 5 3\nbayer 2\nscreen\nshow")
	impl.RunScript("flat 64 16 255\nscreen\nscreen\nscreen\nscreen")
	wantScript(t, "ramp 5 3\nbayer 2\nscreen\nshow", told, count)
}

// TestNoPanicWithDesks gives lines to desks whose parts fit together badly; a panic would end the test.
func TestNoPanicWithDesks(t *testing.T) {
	lines := append(plainLines(), "flat 2 1 3", "bayer 1", "shift 1 1", "level 9", "rank 2 2 1", "")
	for _, a := range extremes {
		for _, b := range extremes {
			for _, length := range []int{0, 1, 4, 65} {
				p := pictureOf(a, b, make([]int, length)...)
				callDesks(p, matrixOf(a, b, make([]int, length)...), lines)
				callDesks(pictureOf(1, 2, a, b), matrixOf(b, a, p.Ink...), lines)
			}
		}
	}
}

func callDesks(p impl.Picture, m impl.Matrix, lines []string) {
	point := pictureOf(1, 1, 1)
	for _, d := range []impl.Desk{
		deskOf(p, m), deskOf(p, m, p), deskOf(p, matrixOf(1, 1, 0), p, p, p, p), deskOf(p, matrixOf(1, 1, 0), p, p, p, p, p),
		deskOf(p, matrixOf(1, 1, 0)), deskOf(point, m), deskOf(point, matrixOf(1, 1, 0), p), deskOf(point, matrixOf(1, 1, 0), point, p, point),
	} {
		impl.DeskOk(d)
		for _, line := range lines {
			impl.RunLine(d, line)
		}
	}
}

// TestNoPanicWithNumbers has every command with extreme numbers in all places.
func TestNoPanicWithNumbers(t *testing.T) {
	d := busyDesk()
	for _, a := range extremes {
		for _, b := range extremes {
			for _, word := range []string{"flat", "ramp", "bayer", "spiral", "spot", "shift", "rank", "level", "screen", "show", ""} {
				two := number(a) + " " + number(b)
				for _, line := range []string{word + " " + number(a), word + " " + two, word + " " + two + " 3", word + " 3 " + two, word + " " + two + " " + two} {
					after, answer := impl.RunLine(d, line)
					wantBool(t, line+": a valid desk", impl.DeskOk(after), true)
					wantBool(t, line+": an answer", answer != "", true)
				}
			}
		}
	}
}

func TestNoPanicWithTextsOfADesk(t *testing.T) {
	parts := []string{"", "\n", " ", "flat 2 1 200", "screen", "show", "\x00\xff", "\xf0\x9f\x98\x80", "1", "-", strings.Repeat("\xff", 1000)}
	for _, first := range parts {
		for _, second := range parts {
			for _, third := range parts {
				for _, text := range []string{first + second + third, first + "\n" + second + "\n" + third, first + " " + second + " " + third + "\n"} {
					answers, count := scriptByLines(text)
					wantScript(t, text, answers, count)
					wantSameRun(t, busyDesk(), text)
				}
			}
		}
	}
}
