package tests

import (
	"strings"
	"testing"

	"loop.example/g03229/impl"
)

func TestScripts(t *testing.T) {
	wantScript(t, "flat 2 2 128\nbayer 1\nscreen\nshow\ncounts\n", "ok\nok\nok\n#./.#\n2 2\n", 5)
	wantScript(t, "grow\nflat 2 2 128\ndiffuse plain left\nruns\nmean\nflat 0 1 1\nwhere", "none\nok\n2\n0 1 1 1 1\n1 2\nno\nwhat\n", 7)
	wantScript(t, "flat 4 2 100\nspiral 2\nreverse\nshift 1 0\nlevel 100\nscreen\nshow\ndrop\ndrop", "ok\nok\nok\nok\n2\nok\n..../####\nok\nnone\n", 9)
}

// TestScriptsStartAnew looks for what an earlier script may have left.
func TestScriptsStartAnew(t *testing.T) {
	for range 3 {
		wantScript(t, "show\nerror\nlevel 255\nscreen\nshow\nerror\nflat 2 1 255\nbayer 2\nlevel 255\nscreen\nshow", "none\nnone\n1\nok\n.\n0\nok\nok\n16\nok\n##\n", 11)
	}
}

func TestScriptsWithoutALine(t *testing.T) {
	wantScript(t, "", "", 0)
}

func TestScriptsOfEmptyLines(t *testing.T) {
	for count := 1; count <= 40; count++ {
		wantScript(t, strings.Repeat("\n", count), "", count)
	}
	wantScript(t, strings.Repeat("\n", 41), "", -1)
	wantScript(t, strings.Repeat("\n", 42), "", -1)
	wantScript(t, strings.Repeat("\n", 1000000), "", -1)
}

func TestNewlineAtTheEnd(t *testing.T) {
	wantScript(t, "show", "none\n", 1)
	wantScript(t, "show\n", "none\n", 1)
	wantScript(t, "show\n\n", "none\n", 2)
	wantScript(t, "show\n\n\n", "none\n", 3)
	wantScript(t, "\nshow", "none\n", 2)
	wantScript(t, "\nshow\n", "none\n", 2)
	wantScript(t, "\n\nshow\n\n", "none\n", 4)
	wantScript(t, "show\nlevel 255", "none\n1\n", 2)
	wantScript(t, "show\n\nlevel 255\n", "none\n1\n", 3)
	wantScript(t, " ", "what\n", 1)
	wantScript(t, " \n", "what\n", 1)
	wantScript(t, "\n ", "what\n", 2)
	wantScript(t, "\x00", "what\n", 1)
}

func TestScriptsOfMaxScriptLines(t *testing.T) {
	for _, line := range []string{"level 255", "show", "x", " ", "screen ", "\xff"} {
		_, answer := impl.RunLine(impl.NewDesk(), line)
		for count := 1; count <= 45; count++ {
			open := strings.Repeat(line+"\n", count-1) + line
			answers, lines := strings.Repeat(answer+"\n", count), count
			if count > 40 {
				answers, lines = "", -1
			}
			wantScript(t, open, answers, lines)
			wantScript(t, open+"\n", answers, lines)
		}
	}
	wantScript(t, strings.Repeat("\n", 40)+"x", "", -1)
	wantScript(t, strings.Repeat("\n", 39)+"x", "what\n", 40)
	wantScript(t, strings.Repeat("\n", 39)+"x\n", "what\n", 40)
	wantScript(t, "show"+strings.Repeat("\n", 40), "none\n", 40)
	wantScript(t, "show"+strings.Repeat("\n", 41), "", -1)
}

func TestScriptsWithOtherEnds(t *testing.T) {
	wantScript(t, "show\r\nlevel 255\r\n", "what\nwhat\n", 2)
	wantScript(t, "show\rlevel 255\r", "what\n", 1)
	wantScript(t, "show\r\n\r\n", "what\nwhat\n", 2)
	wantScript(t, "show\vruns\fmean\u0085counts\u2028error", "what\n", 1)
	wantScript(t, "show\\nruns", "what\n", 1)
}

// TestNewlinesBehindOddBytes has newlines behind, and in the middle of, bytes that begin a rune.
func TestNewlinesBehindOddBytes(t *testing.T) {
	for _, odd := range []string{"\xff", "\xc3", "\xe2", "\xe2\x82", "\xf0", "\xf0\x9f", "\xf0\x9f\x98", "\x80", "\xbf", "\x00", "\xed\xa0\x80", "\xf8\x88\x80\x80", "\u20ac", "\U0001f600", "\ufffd", "\u010a", "\u0a0a"} {
		wantScript(t, odd+"\nlevel 255\n", "what\n1\n", 2)
		wantScript(t, "level 255\n"+odd, "1\nwhat\n", 2)
		wantScript(t, odd+"\n"+odd+"\n\n"+odd, "what\nwhat\nwhat\n", 4)
		wantScript(t, odd+"\n\x80\nlevel 255", "what\nwhat\n1\n", 3)
	}
	for b := range 256 {
		letter := string([]byte{byte(b)})
		if letter == "\n" {
			wantScript(t, letter+"\nlevel 255\n", "1\n", 3)
		} else {
			wantScript(t, letter+"\nlevel 255\n", "what\n1\n", 2)
		}
	}
}

// TestScriptsByLines makes scripts of many lines in an order that follows no pattern, and compares them with a second way.
func TestScriptsByLines(t *testing.T) {
	lines := append(append(allLines(), plainLines()...), "", "", "", "what", " ", "level 01", "screen", "screen", "diffuse stein both", "flat 9 7 77", "ramp 12 5", "spot 3 2")
	state := uint32(7)
	next := func(count int) int {
		state = state*1664525 + 1013904223
		return int(state>>8) % count
	}
	for range 400 {
		text := ""
		for range next(45) {
			text += lines[next(len(lines))] + "\n"
		}
		text += strings.TrimPrefix(lines[next(len(lines))], " ")
		answers, count := scriptByLines(text)
		wantScript(t, text, answers, count)
	}
}

// TestSmallTexts has all texts of up to 6 of these bytes.
func TestSmallTexts(t *testing.T) {
	texts := []string{""}
	for len(texts[0]) <= 6 {
		var longer []string
		for _, text := range texts {
			answers, count := scriptByLines(text)
			wantScript(t, text, answers, count)
			for _, letter := range []string{"\n", " ", "1", "\xc3"} {
				longer = append(longer, text+letter)
			}
		}
		texts = longer
	}
}

// TestFullAndEmptyDeskInAScript lays as many plates as there is room for, and takes them all away.
func TestFullAndEmptyDeskInAScript(t *testing.T) {
	text := "flat 3 1 255\n" + strings.Repeat("screen\n", 6) + "counts\n" + strings.Repeat("drop\n", 6) + "counts\nscreen\ncounts\nflat 1 1 1\ncounts"
	answers := "ok\n" + strings.Repeat("ok\n", 4) + "full\nfull\n" + "0 0 0 0 0 0 0 0 0 0 0 0 0 0 0 3\n" + strings.Repeat("ok\n", 4) + "none\nnone\n" + "none\nok\n0 3\nok\nnone\n"
	wantScript(t, text, answers, 19)
}

// TestRefusedLinesInAScript has between the lines others that are refused, and asks for the same answers to them.
func TestRefusedLinesInAScript(t *testing.T) {
	for _, refused := range []string{"flat 0 0 0", "ramp 65 1", "bayer 5", "spiral 17", "spot 0 0", "shift 1001 0", "rank 17 16 3", "level 256", "where", "flat 1 1 01", " "} {
		_, answer := impl.RunLine(impl.NewDesk(), refused)
		lines := []string{"ramp 4 2", "bayer 1", "screen", "show", "diffuse stein both", "shift 1 1", "screen", "counts", "error", "mirror", "runs", "grow", "mean"}
		plain, _ := impl.RunScript(strings.Join(lines, "\n"))
		between, count := impl.RunScript(strings.Join(lines, "\n"+refused+"\n"))
		wantInt(t, "the lines", count, 2*len(lines)-1)
		wantAnswer(t, "with "+refused, between, strings.Join(strings.Split(strings.TrimSuffix(plain, "\n"), "\n"), "\n"+answer+"\n")+"\n")
	}
}

func TestTheMostWork(t *testing.T) {
	text := strings.Repeat("rank 16 16 3\n", 20) + strings.Repeat("rank 64 4 100\n", 20)
	wantScript(t, text, strings.Repeat("ok\n", 40), 40)
	long := "flat 64 16 128\n" + strings.Repeat("diffuse stein both\nruns\nshow\ndrop\n", 9) + "show"
	answers, count := scriptByLines(long)
	wantScript(t, long, answers, count)
}
