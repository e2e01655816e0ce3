package tests

import (
	"math/big"
	"regexp"
	"slices"
	"strings"
	"testing"

	"loop.example/g03229/impl"
)

type namedDesk struct {
	name string
	desk impl.Desk
}

func deskOf(p impl.Picture, m impl.Matrix, plates ...impl.Picture) impl.Desk {
	return impl.Desk{Picture: p, Matrix: m, Plates: plates}
}

// smallDesk has a picture and a matrix that are no squares, and these plates.
func smallDesk(plates ...impl.Picture) impl.Desk {
	return deskOf(pictureOf(3, 2, 0, 60, 128, 200, 254, 255), matrixOf(3, 2, 4, 0, 5, 3, 1, 2), plates...)
}

// busyDesk has room for a plate, a plate to change, and a matrix that every command changes.
func busyDesk() impl.Desk {
	return smallDesk(pictureOf(3, 2, 1, 0, 0, 1, 1, 0), pictureOf(3, 2, 0, 1, 0, 1, 0, 0))
}

// withMatrix has another matrix and the same picture and plates.
func withMatrix(d impl.Desk, m impl.Matrix) impl.Desk {
	d.Matrix = m
	return d
}

// withPlates has other plates and the same picture and matrix.
func withPlates(d impl.Desk, plates ...impl.Picture) impl.Desk {
	d.Plates = plates
	return d
}

func goodDesks() []namedDesk {
	first, second := pictureOf(3, 2, 1, 0, 0, 1, 1, 0), pictureOf(3, 2, 0, 1, 0, 1, 0, 0)
	desks := []namedDesk{
		{"the new one", deskOf(pictureOf(1, 1, 0), matrixOf(1, 1, 0))},
		{"an empty list of plates", deskOf(pictureOf(1, 1, 255), matrixOf(1, 1, 0), []impl.Picture{}...)},
		{"no plate", smallDesk()},
		{"one plate", smallDesk(first)},
		{"two plates", smallDesk(first, second)},
		{"three plates", smallDesk(first, second, filledPlate(3, 2, 0))},
		{"four plates", smallDesk(first, second, filledPlate(3, 2, 6), first)},
		{"four points", deskOf(pictureOf(1, 1, 128), matrixOf(1, 1, 0), stackOf(pictureOf(1, 1, 1), pictureOf(1, 1, 0), pictureOf(1, 1, 1), pictureOf(1, 1, 1))...)},
		{"a plate for the picture", deskOf(first, countedMatrix(4, 4), second)},
		{"the widest area", deskOf(noisePicture(64, 16, 255), mixedMatrix(16, 16), noisePicture(64, 16, 1), turnedNoise(64, 16))},
		{"the square area", deskOf(noisePicture(32, 32, 200), mixedMatrix(256, 1), noisePicture(32, 32, 1))},
		{"the longest column", deskOf(noisePicture(1, 64, 254), mixedMatrix(1, 256), noisePicture(1, 64, 1), turnedNoise(1, 64), filledPlate(1, 64, 30))},
	}
	for _, m := range goodMatrices() {
		desks = append(desks, namedDesk{m.name, deskOf(noisePicture(7, 5, 255), m.matrix, noisePicture(7, 5, 1), turnedNoise(7, 5))})
	}
	return desks
}

// badDesks holds desks with a bad picture, a bad matrix, plates that are no stack, or a stack of another size.
func badDesks() []namedDesk {
	dots := filledPlate(2, 2, 3)
	desks := []namedDesk{
		{"the zero value", impl.Desk{}},
		{"exchanged sides of the plate", deskOf(noisePicture(4, 2, 255), matrixOf(1, 1, 0), filledPlate(2, 4, 3))},
		{"a plate with as many points", deskOf(noisePicture(4, 1, 255), matrixOf(1, 1, 0), dots)},
		{"a lower plate", deskOf(noisePicture(2, 3, 255), matrixOf(1, 1, 0), dots)},
		{"a wider plate", deskOf(pictureOf(1, 2, 7, 8), matrixOf(1, 1, 0), dots)},
		{"four plates of another size", deskOf(noisePicture(3, 2, 255), matrixOf(1, 1, 0), dots, dots, dots, dots)},
	}
	for _, s := range badPictures() {
		desks = append(desks,
			namedDesk{"the picture is " + s.name, deskOf(s.picture, countedMatrix(2, 2))},
			namedDesk{"the picture is " + s.name + ", with a plate", deskOf(s.picture, countedMatrix(2, 2), pictureOf(1, 1, 1))},
		)
	}
	for _, m := range badMatrices() {
		desks = append(desks, namedDesk{"the matrix is " + m.name, deskOf(pictureOf(2, 2, 1, 2, 3, 4), m.matrix, dots)})
	}
	for _, s := range badStacks() {
		if len(s.plates) > 0 {
			picture := impl.Picture{Width: s.plates[0].Width, Height: s.plates[0].Height, Ink: make([]int, len(s.plates[0].Ink))}
			desks = append(desks, namedDesk{"the plates are " + s.name, deskOf(picture, countedMatrix(2, 2), s.plates...)})
		}
	}
	return desks
}

func wantDesk(t *testing.T, what string, got, want impl.Desk) {
	t.Helper()
	wantPicture(t, what+": the picture", got.Picture, want.Picture)
	wantMatrix(t, what+": the matrix", got.Matrix, want.Matrix)
	if !slices.EqualFunc(got.Plates, want.Plates, equalPictures) {
		t.Errorf("%s: the plates: got %v, want %v", what, got.Plates, want.Plates)
	}
}

func wantAnswer(t *testing.T, what, got, want string) {
	t.Helper()
	if got != want {
		t.Errorf("%s: got %q, want %q", what, got, want)
	}
}

func wantRun(t *testing.T, d impl.Desk, line, answer string, after impl.Desk) {
	t.Helper()
	got, told := impl.RunLine(d, line)
	wantAnswer(t, "the answer to "+shortLine(line), told, answer)
	wantDesk(t, "after "+shortLine(line), got, after)
}

// wantKept asks for the answer, and for the desk as it was.
func wantKept(t *testing.T, d impl.Desk, line, answer string) {
	t.Helper()
	wantRun(t, d, line, answer, d)
}

func shortLine(line string) string {
	return strings.ToValidUTF8(line[:min(len(line), 40)], "?")
}

// roomyDesk has lists of its own, with spare capacity behind each of them.
func roomyDesk(d impl.Desk) impl.Desk {
	return impl.Desk{Picture: roomyCopy(d.Picture), Matrix: roomyMatrix(d.Matrix), Plates: roomyStack(d.Plates)}
}

// wantUntouchedDesk asks whether a roomyDesk of d is still as it was made.
func wantUntouchedDesk(t *testing.T, what string, room, d impl.Desk) {
	t.Helper()
	wantUntouched(t, what+": the picture", room.Picture, d.Picture)
	wantUntouched(t, what+": the matrix", asPicture(room.Matrix), asPicture(d.Matrix))
	wantUntouchedStack(t, what, room.Plates, d.Plates)
}

// listsOf has all lists of numbers of a desk.
func listsOf(d impl.Desk) [][]int {
	lists := [][]int{d.Picture.Ink, d.Matrix.Ranks}
	for _, plate := range d.Plates {
		lists = append(lists, plate.Ink)
	}
	return lists
}

// numberLines has for each command with numbers lines at which it changes the desk or tells a level.
func numberLines() []string {
	return []string{
		"flat 1 1 0", "flat 3 2 128", "flat 64 16 255", "flat 1 64 1", "ramp 1 1", "ramp 8 2", "ramp 64 16", "ramp 1 64",
		"bayer 0", "bayer 1", "bayer 4", "spiral 1", "spiral 2", "spiral 16", "spot 1 0", "spot 2 1", "spot 12 0", "spot 3 3", "spot 12 12",
		"shift 0 0", "shift 1 0", "shift 0 -1", "shift 1000 -1000", "shift -999 1000", "rank 1 1 1", "rank 4 3 5", "rank 16 16 9", "rank 64 4 100",
		"level 0", "level 1", "level 127", "level 128", "level 255",
	}
}

// refusedLines has for each command with numbers lines at which it answers `no`.
func refusedLines() []string {
	return []string{
		"flat 0 1 1", "flat 1 0 1", "flat -1 1 1", "flat 65 1 1", "flat 1 65 1", "flat 41 25 1", "flat 1 1 -1", "flat 1 1 256",
		"flat 9223372036854775807 1 1", "flat 1 -9223372036854775808 1", "flat 4294967296 4294967296 1", "flat 1 1 9223372036854775807",
		"ramp 0 1", "ramp 1 0", "ramp -1 -1", "ramp 65 1", "ramp 1 65", "ramp 33 32", "ramp 9223372036854775807 9223372036854775807",
		"bayer -1", "bayer 5", "bayer 9223372036854775807", "bayer -9223372036854775808",
		"spiral 0", "spiral -1", "spiral 17", "spiral 9223372036854775807", "spiral -9223372036854775808",
		"spot 0 1", "spot 13 0", "spot 1 -1", "spot 1 13", "spot 4 1", "spot 9 8", "spot 9223372036854775807 9223372036854775807",
		"shift 1001 0", "shift 0 1001", "shift -1001 0", "shift 0 -1001", "shift 9223372036854775807 0", "shift 0 -9223372036854775808",
		"rank 0 1 1", "rank 1 0 1", "rank 65 1 1", "rank 1 65 1", "rank 17 16 1", "rank 32 32 9", "rank 1 1 0", "rank 1 1 101", "rank 1 1 -7",
		"rank 9223372036854775807 9223372036854775807 1", "rank 4294967296 4294967296 1", "rank 1 1 -9223372036854775808",
		"level -1", "level 256", "level 9223372036854775807", "level -9223372036854775808",
	}
}

// plainLines has all commands without numbers.
func plainLines() []string {
	return []string{
		"reverse", "screen", "diffuse stein left", "diffuse stein both", "diffuse plain left", "diffuse plain both",
		"grow", "shrink", "mirror", "drop", "show", "runs", "mean", "counts", "error",
	}
}

func allLines() []string {
	return slices.Concat(numberLines(), refusedLines(), plainLines())
}

var decimal = regexp.MustCompile(`\A(0|-?[1-9][0-9]*)\z`)

// numbersByPattern reads the words as numbers of any length, and looks afterwards whether they are of type int.
func numbersByPattern(words []string) ([]int, bool) {
	numbers := []int{}
	for _, word := range words {
		n, _ := new(big.Int).SetString(word, 10)
		if !decimal.MatchString(word) || !n.IsInt64() {
			return nil, false
		}
		numbers = append(numbers, int(n.Int64()))
	}
	return numbers, true
}

// wordsByBytes goes through the bytes of a line.
func wordsByBytes(line string) []string {
	words := []string{""}
	for i := range len(line) {
		if line[i] == 32 {
			words = append(words, "")
		} else {
			words[len(words)-1] += line[i : i+1]
		}
	}
	return words
}

// runByWords performs a line in the order of the sentences of chapter 9. It is for desks whose lists nobody writes to.
func runByWords(d impl.Desk, line string) (impl.Desk, string) {
	words := wordsByBytes(line)
	if !impl.DeskOk(d) {
		return d, "bad"
	}
	if line == "" {
		return d, ""
	}
	if slices.Contains([]string{"screen", "diffuse"}, words[0]) {
		return newPlateByWords(d, words)
	}
	if slices.Contains(plainLines(), words[0]) && len(words) == 1 {
		return plainByWords(d, words[0])
	}
	numbers, ok := numbersByPattern(words[1:])
	counts := map[string]int{"flat": 3, "ramp": 2, "bayer": 1, "spiral": 1, "spot": 2, "shift": 2, "rank": 3, "level": 1}
	if count, known := counts[words[0]]; !ok || !known || count != len(numbers) {
		return d, "what"
	}
	return numbersByWords(d, words[0], append(numbers, 0, 0))
}

func newPlateByWords(d impl.Desk, words []string) (impl.Desk, string) {
	kernels := map[string][]impl.Part{"stein": impl.SteinKernel(), "plain": impl.PlainKernel()}
	plate, answer := impl.ScreenPicture(d.Matrix, d.Picture), "ok"
	if words[0] == "diffuse" {
		if len(words) != 3 || kernels[words[1]] == nil || words[2] != "left" && words[2] != "both" {
			return d, "what"
		}
		lost := 0
		plate, lost, _ = impl.DiffusePicture(kernels[words[1]], d.Picture, words[2] == "both")
		answer = number(lost)
	} else if len(words) != 1 {
		return d, "what"
	}
	if len(d.Plates) >= 4 {
		return d, "full"
	}
	d.Plates = slices.Concat(d.Plates, stackOf(plate))
	return d, answer
}

func plainByWords(d impl.Desk, word string) (impl.Desk, string) {
	if word == "reverse" {
		d.Matrix = impl.ReverseMatrix(d.Matrix)
		return d, "ok"
	}
	if len(d.Plates) == 0 {
		return d, "none"
	}
	others, last := d.Plates[:len(d.Plates)-1:len(d.Plates)-1], d.Plates[len(d.Plates)-1]
	switch word {
	case "drop":
		d.Plates = others
		return d, "ok"
	case "grow":
		d.Plates = append(others, impl.GrowPlate(last))
		return d, "ok"
	case "shrink":
		d.Plates = append(others, impl.ShrinkPlate(last))
		return d, "ok"
	case "mirror":
		d.Plates = append(others, impl.MirrorPicture(last))
		return d, "ok"
	case "show":
		return d, strings.Join(strings.Fields(impl.DotText(last)), "/")
	case "runs":
		return d, spaced(impl.RunsOf(last))
	case "mean":
		sum, points := impl.MeanOf(last)
		return d, spaced([]int{sum, points})
	case "counts":
		return d, spaced(impl.MarkCounts(d.Plates))
	}
	return d, number(impl.ErrorOf(d.Picture, last))
}

func numbersByWords(d impl.Desk, word string, n []int) (impl.Desk, string) {
	ok, after := false, d
	switch word {
	case "flat":
		after.Plates = nil
		after.Picture, ok = impl.FlatPicture(n[0], n[1], n[2])
	case "ramp":
		after.Plates = nil
		after.Picture, ok = impl.RampPicture(n[0], n[1])
	case "bayer":
		after.Matrix, ok = impl.BayerMatrix(n[0])
	case "spiral":
		after.Matrix, ok = impl.SpiralMatrix(n[0])
	case "spot":
		after.Matrix, ok = impl.SpotMatrix(latticeOf(n[0], n[1]))
	case "shift":
		after.Matrix = impl.ShiftMatrix(d.Matrix, n[0], n[1])
		ok = after.Matrix.Width > 0
	case "rank":
		seed, isField := impl.SeedField(n[0], n[1], n[2])
		even, _ := impl.EvenField(seed, 64)
		after.Matrix, _ = impl.RankField(even)
		ok = isField
	case "level":
		if level := impl.LevelOf(d.Matrix, n[0]); level >= 0 {
			return d, number(level)
		}
	}
	if !ok {
		return d, "no"
	}
	return after, "ok"
}

func spaced(numbers []int) string {
	text := ""
	for _, n := range numbers {
		text += " " + number(n)
	}
	return text[1:]
}

// wantSameRun compares a line with runByWords.
func wantSameRun(t *testing.T, d impl.Desk, line string) {
	t.Helper()
	after, answer := runByWords(d, line)
	wantRun(t, d, line, answer, after)
}

func wantScript(t *testing.T, text, answers string, lines int) {
	t.Helper()
	told, count := impl.RunScript(text)
	wantAnswer(t, "the answers to "+shortLine(text), told, answers)
	wantInt(t, "the lines of "+shortLine(text), count, lines)
}

// scriptByLines takes one line after the other away from the front of the text.
func scriptByLines(text string) (string, int) {
	desk, told, count := impl.NewDesk(), "", 0
	for text != "" {
		line, rest, _ := strings.Cut(text, "\n")
		text = rest
		count++
		if count > 40 {
			return "", -1
		}
		answer := ""
		desk, answer = runByWords(desk, line)
		if answer != "" {
			told += answer + "\n"
		}
	}
	return told, count
}
