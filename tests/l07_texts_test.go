package tests

import (
	"math"
	"strconv"
	"strings"
	"testing"

	"loop.example/g03229/impl"
)

// textByRows writes each row as zeros and ones, and then writes other bytes for these.
func textByRows(p impl.Picture) string {
	var text strings.Builder
	for i, ink := range p.Ink {
		text.WriteString(number(ink))
		if i%p.Width == p.Width-1 {
			text.WriteString("\n")
		}
	}
	return strings.NewReplacer("0", ".", "1", "#").Replace(text.String())
}

func wantText(t *testing.T, what string, p impl.Picture, want string) {
	t.Helper()
	if got := impl.DotText(p); got != want {
		t.Errorf("the text of %s: got %q, want %q", what, got, want)
	}
	got, ok := impl.ParseDots(want)
	wantPictureOk(t, "the plate of the text of "+what, got, ok, p)
}

func wantNoText(t *testing.T, s string) {
	t.Helper()
	got, ok := impl.ParseDots(s)
	wantRefused(t, "the plate of "+strconv.Quote(s[:min(len(s), 40)]), got, ok)
}

func TestTextExamples(t *testing.T) {
	wantText(t, "a void", pictureOf(1, 1, 0), ".\n")
	wantText(t, "a dot", pictureOf(1, 1, 1), "#\n")
	wantText(t, "two corners", pictureOf(2, 2, 1, 0, 0, 1), "#.\n.#\n")
	wantText(t, "a row", pictureOf(4, 1, 1, 1, 0, 1), "##.#\n")
	wantText(t, "a column", pictureOf(1, 3, 0, 1, 0), ".\n#\n.\n")
	wantText(t, "three columns and two rows", pictureOf(3, 2, 1, 0, 0, 0, 1, 1), "#..\n.##\n")
	wantText(t, "the longest row", filledPlate(64, 1, 64), strings.Repeat("#", 64)+"\n")
	wantText(t, "the longest column", filledPlate(1, 64, 0), strings.Repeat(".\n", 64))
	wantText(t, "the widest area", filledPlate(64, 16, 64), strings.Repeat("#", 64)+"\n"+strings.Repeat(strings.Repeat(".", 64)+"\n", 15))
}

func TestDotTextOfNoPlate(t *testing.T) {
	for _, s := range badPlates() {
		if got := impl.DotText(s.picture); got != "" {
			t.Errorf("the text of %s: got %q, want none", s.name, got)
		}
	}
}

// The two tests that follow are those of the texts of promise P7.

func TestTexts(t *testing.T) {
	for _, s := range allPlates() {
		wantText(t, s.name, s.picture, textByRows(s.picture))
	}
}

func TestTextAndBack(t *testing.T) {
	for _, s := range allPlates() {
		back, ok := impl.ParseDots(impl.DotText(s.picture))
		wantPictureOk(t, s.name+" and back", back, ok, s.picture)
	}
}

// TestParseDotsOfEveryText tries all short texts of four bytes: one has a plate if it is the text of one.
func TestParseDotsOfEveryText(t *testing.T) {
	const longest = 8
	plates := map[string]impl.Picture{}
	for width := 1; width < longest; width++ {
		for height := 1; (width+1)*height <= longest; height++ {
			for _, plate := range platesOfSize(width, height) {
				plates[textByRows(plate)] = plate
			}
		}
	}
	texts := []string{""}
	for length := range longest + 1 {
		var longer []string
		for _, text := range texts {
			if plate, found := plates[text]; found {
				wantText(t, "a short text", plate, text)
			} else {
				wantNoText(t, text)
			}
			for _, next := range []string{".", "#", "\n", "1"} {
				if length < longest {
					longer = append(longer, text+next)
				}
			}
		}
		texts = longer
	}
}

func TestParseDotsOfNoRows(t *testing.T) {
	for _, s := range []string{"", "\n", "\n\n", "\n\n\n\n", strings.Repeat("\n", 1024), strings.Repeat("\n", 1000000)} {
		wantNoText(t, s)
	}
}

func TestParseDotsWithoutTheLastNewline(t *testing.T) {
	for _, s := range goodPlates() {
		text := textByRows(s.picture)
		wantNoText(t, strings.TrimSuffix(text, "\n"))
		wantNoText(t, text+"\n")
		wantNoText(t, "\n"+text)
		wantNoText(t, text+".")
		wantNoText(t, text+"#")
		wantNoText(t, "."+text[1:len(text)-1]+"#")
	}
}

// TestParseDotsWithRowsOfDifferentLengths has texts among them whose length is right.
func TestParseDotsWithRowsOfDifferentLengths(t *testing.T) {
	for _, s := range []string{
		"##\n#\n", "#\n##\n", "##\n#\n##.\n", "##\n##.\n#\n", "##\n\n##\n", "##\n\n##..\n", "##\n##\n\n", "\n##\n", "#\n\n",
		"#\n\n#\n", "#\n##\n\n", "...\n....\n..\n", "...\n..\n....\n", "##\n####\n\n", "#.\n.#\n\n.#",
	} {
		wantNoText(t, s)
	}
}

// TestParseDotsWithOtherBytes changes one byte; with a dot for the first newline there is one row of five points.
func TestParseDotsWithOtherBytes(t *testing.T) {
	text := "#.\n.#\n"
	for b := range 256 {
		for place := range len(text) {
			changed := text[:place] + string([]byte{byte(b)}) + text[place+1:]
			inRow := b == '#' || b == '.'
			if inRow && place < len(text)-1 || b == '\n' && text[place] == '\n' {
				plate, ok := impl.ParseDots(changed)
				wantBool(t, strconv.Quote(changed), ok && textByRows(plate) == changed, true)
			} else {
				wantNoText(t, changed)
			}
		}
	}
	for _, s := range []string{
		"#.\r\n.#\r\n", "#\r\n", "# \n", " #\n", "#\t\n", "\x00\n", "#\x00\n", "\xff\xfe\n", "\u00b7\n", "#\u2028", "#/.\n", "#/", "##\x80\n", "\xef\xbb\xbf#\n",
	} {
		wantNoText(t, s)
	}
}

func TestParseDotsThatAreTooLong(t *testing.T) {
	for _, size := range [][2]int{{65, 1}, {1, 65}, {41, 25}, {25, 41}, {64, 17}, {17, 64}, {33, 32}, {32, 33}, {64, 64}, {65, 65}, {1000000, 1}, {1, 1000000}, {1000, 1000}} {
		wantNoText(t, strings.Repeat(strings.Repeat("#", size[0])+"\n", size[1]))
	}
	wantNoText(t, strings.Repeat("#", 1000000))
	wantNoText(t, strings.Repeat("\x00", 1000000))
	wantNoText(t, "#.\n"+strings.Repeat("#", 1000000))
	wantNoText(t, strings.Repeat("#.", 1000000)+"\n#.\n")
}

func TestParseDotsOfEachSize(t *testing.T) {
	for width := range 67 {
		for height := range 67 {
			text := strings.Repeat(strings.Repeat("#", width)+"\n", height)
			if isSizeOfPicture(width, height) {
				wantText(t, sizeName(width, height), filledPlate(width, height, width*height), text)
			} else {
				wantNoText(t, text)
			}
		}
	}
}

func wantTone(t *testing.T, what string, p impl.Picture, want float32) {
	t.Helper()
	if got := impl.ToneOf(p); math.Float32bits(got) != math.Float32bits(want) {
		t.Errorf("the tone of %s: got %v, want %v", what, got, want)
	}
}

func TestToneOfExamples(t *testing.T) {
	wantTone(t, "a void", pictureOf(1, 1, 0), 0)
	wantTone(t, "a dot", pictureOf(1, 1, 1), 1)
	wantTone(t, "one of four", filledPlate(4, 1, 1), 0.25)
	wantTone(t, "one of three", filledPlate(3, 1, 1), math.Float32frombits(0x3eaaaaab))
	wantTone(t, "two of three", filledPlate(1, 3, 2), math.Float32frombits(0x3f2aaaab))
	wantTone(t, "one of ten", filledPlate(5, 2, 1), math.Float32frombits(0x3dcccccd))
	wantTone(t, "six of seven", filledPlate(7, 1, 6), math.Float32frombits(0x3f5b6db7))
	wantTone(t, "no dots", filledPlate(32, 32, 0), 0)
	wantTone(t, "dots only", filledPlate(64, 16, 1024), 1)
	wantTone(t, "the least share", filledPlate(32, 32, 1), math.Float32frombits(0x3a800000))
	wantTone(t, "nearly all", filledPlate(32, 32, 1023), math.Float32frombits(0x3f7fc000))
}

// toneByRounding divides with many digits and then rounds to the nearest float32: here that is the same as to divide float32 numbers.
func toneByRounding(dots, points int) float32 {
	return float32(float64(dots) / float64(points))
}

func TestToneOfEachNumberOfDots(t *testing.T) {
	for _, size := range [][2]int{{1, 1}, {3, 1}, {1, 7}, {11, 9}, {16, 16}, {31, 33}, {32, 32}, {64, 1}, {1, 64}} {
		points := size[0] * size[1]
		for dots := range points + 1 {
			wantTone(t, number(dots)+" dots, "+sizeName(size[0], size[1]), filledPlate(size[0], size[1], dots), toneByRounding(dots, points))
		}
	}
}

func TestToneOf(t *testing.T) {
	for _, s := range allPlates() {
		wantTone(t, s.name, s.picture, toneByRounding(sumOfInts(s.picture.Ink), len(s.picture.Ink)))
	}
}

func TestToneOfNoPlate(t *testing.T) {
	for _, s := range badPlates() {
		wantTone(t, s.name, s.picture, 0)
	}
}
