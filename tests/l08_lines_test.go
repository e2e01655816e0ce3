package tests

import (
	"math"
	"strconv"
	"strings"
	"testing"

	"loop.example/g03229/impl"
)

func TestUnknownLines(t *testing.T) {
	d := busyDesk()
	for _, line := range []string{
		"where", "what", "ok", "no", "bad", "none", "full", "sho", "showx", "show.", "flats 1 1 1", "lat 1 1 1", "bayer1", "1", "0", "1 2 3", "-1",
		"stein", "plain", "left", "both", "diffuse", "diffuse stein", "diffuse left", "diffuse stein right", "diffuse other left", "diffuse left stein",
		"diffuse stein left both", "diffuse stein 1", "diffuse 1 left", "diffuse  left", "flat 1 1 x", "flat a b c", "bayer x", "level", "show 1",
		"show,runs", "show;runs", "show/runs", "#", "/", "\"show\"", "grow grow", "drop drop", "MaxPlates", "matrix", "turn", "negative", "tile 2 2",
	} {
		wantKept(t, d, line, "what")
	}
}

// TestUnknownWordsWithBadNumbers has words that are no commands, with numbers that are none.
func TestUnknownWordsWithBadNumbers(t *testing.T) {
	for _, line := range []string{"where 007", "where x", "where +1", "where -0", "where -", "where 9223372036854775808", "where 1 2 x", " 1", "  ", "where "} {
		wantKept(t, busyDesk(), line, "what")
	}
}

func TestWordsTooFewOrTooMany(t *testing.T) {
	for _, d := range []impl.Desk{impl.NewDesk(), busyDesk()} {
		for _, line := range allLines() {
			wantKept(t, d, line+" 1", "what")
			wantKept(t, d, line+" x", "what")
			wantKept(t, d, line+" "+line, "what")
			wantKept(t, d, line+" 1 1 1 1 1 1", "what")
			if end := strings.LastIndex(line, " "); end >= 0 {
				wantKept(t, d, line[:end], "what")
				wantKept(t, d, line[end+1:], "what")
			}
		}
	}
}

func TestSpaces(t *testing.T) {
	for _, d := range []impl.Desk{impl.NewDesk(), busyDesk()} {
		for _, line := range allLines() {
			wantKept(t, d, " "+line, "what")
			wantKept(t, d, line+" ", "what")
			wantKept(t, d, "  "+line+"  ", "what")
			if strings.Contains(line, " ") {
				wantKept(t, d, strings.Replace(line, " ", "  ", 1), "what")
				wantKept(t, d, strings.ReplaceAll(line, " ", "  "), "what")
				wantKept(t, d, strings.ReplaceAll(line, " ", ""), "what")
				wantKept(t, d, strings.ReplaceAll(line, " ", "\t"), "what")
				wantKept(t, d, strings.ReplaceAll(line, " ", "\u00a0"), "what")
				wantKept(t, d, strings.ReplaceAll(line, " ", "_"), "what")
			}
		}
		for _, line := range []string{" ", "  ", "     ", strings.Repeat(" ", 1000000), "\t", "\r", "\u00a0", "\u3000"} {
			wantKept(t, d, line, "what")
		}
	}
}

func TestCapitals(t *testing.T) {
	for _, d := range []impl.Desk{impl.NewDesk(), busyDesk()} {
		for _, line := range allLines() {
			wantKept(t, d, strings.ToUpper(line), "what")
			wantKept(t, d, strings.ToUpper(line[:1])+line[1:], "what")
		}
		wantKept(t, d, "diffuse Stein left", "what")
		wantKept(t, d, "diffuse plain LEFT", "what")
		wantKept(t, d, "diffuse plain Both", "what")
	}
}

func TestNewlinesInLines(t *testing.T) {
	for _, d := range []impl.Desk{impl.NewDesk(), busyDesk()} {
		for _, line := range allLines() {
			for _, end := range []string{"\n", "\r\n", "\r", "\v", "\f", "\u0085", "\u2028", "\n\n"} {
				wantKept(t, d, line+end, "what")
				wantKept(t, d, end+line, "what")
				wantKept(t, d, line+end+line, "what")
			}
			wantKept(t, d, strings.Replace(line, " ", "\n", 1)+"\n", "what")
		}
		wantKept(t, d, "\n", "what")
		wantKept(t, d, "\n\n", "what")
		wantKept(t, d, "flat\n1 1 1", "what")
		wantKept(t, d, "level 1\n1", "what")
	}
}

// TestSingleBytes has each byte alone, and put before, behind and into some lines.
func TestSingleBytes(t *testing.T) {
	d := busyDesk()
	for b := range 256 {
		letter := string([]byte{byte(b)})
		wantKept(t, d, letter, "what")
		for _, line := range []string{"show", "screen", "flat 2 1 7", "shift 1 0", "level 12", "diffuse plain both"} {
			for at := range len(line) + 1 {
				wantSameRun(t, d, line[:at]+letter+line[at:])
				wantSameRun(t, d, line[:at]+letter+line[min(at+1, len(line)):])
			}
		}
	}
}

// TestChangedLines takes a byte out of each line, or puts another one in.
func TestChangedLines(t *testing.T) {
	for _, d := range []impl.Desk{impl.NewDesk(), busyDesk()} {
		for _, line := range append(allLines(), "") {
			for at := range len(line) + 1 {
				wantSameRun(t, d, line[:at]+line[min(at+1, len(line)):])
				for _, letter := range []string{" ", "0", "1", "9", "-", "+", ".", "a", "S", "\n", "\x00", "\xff"} {
					wantSameRun(t, d, line[:at]+letter+line[at:])
				}
			}
		}
	}
}

// lineWith has the number in this place of a line whose other numbers are 1.
func lineWith(word string, count, place int, text string) string {
	for i := range count {
		if i == place {
			word += " " + text
		} else {
			word += " 1"
		}
	}
	return word
}

// wantInEachPlace asks for the answer to each command with this number in each place.
func wantInEachPlace(t *testing.T, d impl.Desk, text, answer string) {
	t.Helper()
	for word, count := range map[string]int{"flat": 3, "ramp": 2, "bayer": 1, "spiral": 1, "spot": 2, "shift": 2, "rank": 3, "level": 1} {
		for place := range count {
			wantKept(t, d, lineWith(word, count, place, text), answer)
		}
	}
}

func TestNumbersThatAreNone(t *testing.T) {
	for _, text := range []string{
		"00", "01", "007", "-01", "-007", "-00", "+0", "+1", "+7", "++1", "-0", "-", "+", "--", "--1", "-+1", "+-1", "-1-", "1-", "1+", "- 1",
		"1.", "1.0", ".1", "1,0", "1e0", "1e3", "0x1", "0b1", "0o1", "0X1", "1_0", "_1", "1_", "1'0", "x", "one", "1x", "x1", "#", "",
		"\u0661", "\uff11", "\u22121", "\u20131", "1\x00", "\x001", "1\xff", "\xff1", "NaN", "Inf", "nil", "true",
		"9223372036854775808", "-9223372036854775809", "9223372036854775817", "18446744073709551615", "18446744073709551616", "18446744073709551617",
		"-18446744073709551615", "36893488147419103233", "340282366920938463463374607431768211457", "99999999999999999999999999999999999999999999",
		"10000000000000000000000000000000000000000001", strings.Repeat("9", 10000), strings.Repeat("0", 10000) + "1", "-" + strings.Repeat("1", 10000),
	} {
		wantInEachPlace(t, impl.NewDesk(), text, "what")
		wantInEachPlace(t, busyDesk(), text, "what")
	}
}

func TestLargestAndSmallestInt(t *testing.T) {
	for _, n := range []int{math.MaxInt, math.MaxInt - 1, math.MinInt, math.MinInt + 1, 1 << 32, -1 << 32, 10000000, -10000000} {
		wantInEachPlace(t, busyDesk(), strconv.Itoa(n), "no")
	}
	wantInEachPlace(t, busyDesk(), "9223372036854775807", "no")
	wantInEachPlace(t, busyDesk(), "-9223372036854775808", "no")
}

// TestBadNumbersBesideRefusedOnes has lines whose other numbers would be answered by `no`.
func TestBadNumbersBesideRefusedOnes(t *testing.T) {
	for _, line := range []string{
		"flat 0 0 007", "flat -0 0 0", "flat 99 99 9223372036854775808", "ramp 0 +1", "ramp -0 0", "spot 13 00", "shift 1001 -0", "shift x 1001",
		"rank 0 0 00", "rank 99 99 -", "level 0256", "level -01", "bayer 05", "bayer +5", "spiral 017", "spiral -0",
	} {
		wantKept(t, busyDesk(), line, "what")
	}
}

func TestNumbersOfEveryLength(t *testing.T) {
	d := busyDesk()
	for digits := 1; digits <= 20; digits++ {
		for _, digit := range []string{"1", "5", "9"} {
			text := strings.Repeat(digit, digits)
			for _, line := range []string{"level " + text, "level -" + text, "shift " + text + " 0", "shift 0 -" + text, "flat 1 1 " + text} {
				wantSameRun(t, d, line)
			}
		}
	}
}

func TestLongLines(t *testing.T) {
	for _, line := range []string{
		strings.Repeat("a", 1000000), strings.Repeat("show ", 100000), strings.Repeat(" 1", 100000), "flat" + strings.Repeat(" 1", 100000),
		strings.Repeat("\xff", 100000), "level " + strings.Repeat("1", 1000000), strings.Repeat("show\n", 100000),
	} {
		wantKept(t, busyDesk(), line, "what")
	}
}

// TestLinesOneAfterTheOther goes through many lines in an order that follows no pattern, and keeps the desk.
func TestLinesOneAfterTheOther(t *testing.T) {
	lines := append(append(allLines(), plainLines()...), "", "what", "flat 1 1", "level 01", "screen", "screen", "diffuse stein both", "spot 3 2", "flat 9 7 77", "ramp 12 5")
	state := uint32(5)
	desk, byWords := impl.NewDesk(), impl.NewDesk()
	for range 5000 {
		state = state*1664525 + 1013904223
		line := lines[int(state>>8)%len(lines)]
		after, answer := runByWords(byWords, line)
		wantRun(t, desk, line, answer, after)
		desk, _ = impl.RunLine(desk, line)
		byWords = after
	}
}
