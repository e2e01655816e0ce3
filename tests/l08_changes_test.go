package tests

import (
	"slices"
	"testing"

	"loop.example/g03229/impl"
)

func TestFlat(t *testing.T) {
	d := smallDesk(filledPlate(3, 2, 2))
	wantRun(t, d, "flat 2 3 128", "ok", deskOf(pictureOf(2, 3, 128, 128, 128, 128, 128, 128), d.Matrix))
	wantRun(t, d, "flat 1 1 0", "ok", deskOf(pictureOf(1, 1, 0), d.Matrix))
	wantRun(t, d, "flat 1 1 255", "ok", deskOf(pictureOf(1, 1, 255), d.Matrix))
	for _, size := range [][2]int{{64, 1}, {1, 64}, {64, 16}, {16, 64}, {32, 32}} {
		flat, _ := impl.FlatPicture(size[0], size[1], 1)
		wantRun(t, d, "flat "+number(size[0])+" "+number(size[1])+" 1", "ok", deskOf(flat, d.Matrix))
	}
}

func TestRamp(t *testing.T) {
	d := smallDesk(filledPlate(3, 2, 2), filledPlate(3, 2, 6))
	wantRun(t, d, "ramp 4 1", "ok", deskOf(pictureOf(4, 1, 0, 85, 170, 255), d.Matrix))
	wantRun(t, d, "ramp 2 2", "ok", deskOf(pictureOf(2, 2, 0, 255, 0, 255), d.Matrix))
	wantRun(t, d, "ramp 1 3", "ok", deskOf(pictureOf(1, 3, 0, 0, 0), d.Matrix))
	wide, _ := impl.RampPicture(64, 16)
	wantRun(t, d, "ramp 64 16", "ok", deskOf(wide, d.Matrix))
}

// TestPicturesTakePlatesAway has a new picture of the same size, and one that is refused.
func TestPicturesTakePlatesAway(t *testing.T) {
	for plates := range 5 {
		var stack []impl.Picture
		for range plates {
			stack = append(stack, filledPlate(3, 2, 4))
		}
		d := smallDesk(stack...)
		wantRun(t, d, "flat 3 2 9", "ok", deskOf(pictureOf(3, 2, 9, 9, 9, 9, 9, 9), d.Matrix))
		wantRun(t, d, "ramp 3 2", "ok", deskOf(pictureOf(3, 2, 0, 127, 255, 0, 127, 255), d.Matrix))
		wantKept(t, d, "flat 3 2 256", "no")
		wantKept(t, d, "flat 3 0 9", "no")
		wantKept(t, d, "ramp 3 -2", "no")
		wantKept(t, d, "ramp 64 17", "no")
	}
}

func TestNewMatrices(t *testing.T) {
	for _, d := range []impl.Desk{smallDesk(), smallDesk(filledPlate(3, 2, 2), filledPlate(3, 2, 5))} {
		wantRun(t, d, "bayer 0", "ok", withMatrix(d, matrixOf(1, 1, 0)))
		wantRun(t, d, "bayer 1", "ok", withMatrix(d, matrixOf(2, 2, 0, 2, 3, 1)))
		wantRun(t, d, "bayer 2", "ok", withMatrix(d, matrixOf(4, 4, 0, 8, 2, 10, 12, 4, 14, 6, 3, 11, 1, 9, 15, 7, 13, 5)))
		wantRun(t, d, "spiral 1", "ok", withMatrix(d, matrixOf(1, 1, 0)))
		wantRun(t, d, "spiral 2", "ok", withMatrix(d, matrixOf(2, 2, 0, 1, 3, 2)))
		wantRun(t, d, "spiral 3", "ok", withMatrix(d, matrixOf(3, 3, 0, 1, 2, 7, 8, 3, 6, 5, 4)))
		wantRun(t, d, "spot 1 0", "ok", withMatrix(d, matrixOf(1, 1, 0)))
		wantRun(t, d, "spot 1 1", "ok", withMatrix(d, matrixOf(2, 2, 0, 2, 3, 1)))
		wantRun(t, d, "spot 2 0", "ok", withMatrix(d, matrixOf(2, 2, 0, 1, 2, 3)))
	}
}

// TestAllNewMatrices has all numbers around those that the functions take.
func TestAllNewMatrices(t *testing.T) {
	d := smallDesk(filledPlate(3, 2, 2))
	wantNew := func(line string, m impl.Matrix, ok bool) {
		if ok {
			wantRun(t, d, line, "ok", withMatrix(d, m))
		} else {
			wantKept(t, d, line, "no")
		}
	}
	for n := -3; n <= 20; n++ {
		bayer, ok := impl.BayerMatrix(n)
		wantNew("bayer "+number(n), bayer, ok)
		spiral, ok := impl.SpiralMatrix(n)
		wantNew("spiral "+number(n), spiral, ok)
		for b := -3; b <= 20; b++ {
			spot, ok := impl.SpotMatrix(latticeOf(n, b))
			wantNew("spot "+number(n)+" "+number(b), spot, ok)
		}
	}
}

func TestReverse(t *testing.T) {
	d := smallDesk(filledPlate(3, 2, 2))
	wantRun(t, d, "reverse", "ok", withMatrix(d, matrixOf(3, 2, 1, 5, 0, 2, 4, 3)))
	for _, m := range goodMatrices() {
		after, _ := impl.RunLine(withMatrix(d, m.matrix), "reverse")
		wantMatrix(t, "the reverse of "+m.name, after.Matrix, impl.ReverseMatrix(m.matrix))
		again, _ := impl.RunLine(after, "reverse")
		wantMatrix(t, "twice the reverse of "+m.name, again.Matrix, m.matrix)
	}
}

func TestShift(t *testing.T) {
	d := smallDesk(filledPlate(3, 2, 2))
	wantRun(t, d, "shift 1 0", "ok", withMatrix(d, matrixOf(3, 2, 5, 4, 0, 2, 3, 1)))
	wantRun(t, d, "shift -1 0", "ok", withMatrix(d, matrixOf(3, 2, 0, 5, 4, 1, 2, 3)))
	wantRun(t, d, "shift 0 1", "ok", withMatrix(d, matrixOf(3, 2, 3, 1, 2, 4, 0, 5)))
	wantRun(t, d, "shift 1 -1", "ok", withMatrix(d, matrixOf(3, 2, 2, 3, 1, 5, 4, 0)))
	wantRun(t, d, "shift 1000 -1000", "ok", withMatrix(d, matrixOf(3, 2, 5, 4, 0, 2, 3, 1)))
	wantKept(t, d, "shift 0 0", "ok")
	wantKept(t, d, "shift 3 -2", "ok")
	wantKept(t, d, "shift 1001 0", "no")
	wantKept(t, d, "shift 0 1001", "no")
	wantKept(t, d, "shift -1001 0", "no")
	wantKept(t, d, "shift 0 -1001", "no")
}

func TestRank(t *testing.T) {
	d := smallDesk(filledPlate(3, 2, 2))
	wantRun(t, d, "rank 1 1 1", "ok", withMatrix(d, matrixOf(1, 1, 0)))
	wantRun(t, d, "rank 4 2 4", "ok", withMatrix(d, matrixOf(4, 2, 2, 4, 1, 6, 0, 7, 3, 5)))
	for _, size := range [][2]int{{1, 1}, {3, 2}, {5, 4}, {7, 9}, {16, 16}, {64, 4}, {4, 64}, {64, 1}, {17, 16}, {0, 3}, {65, 1}, {1, 65}} {
		for _, every := range []int{-1, 0, 1, 2, 3, 7, 14, 50, 100, 101} {
			wantRank(t, d, size[0], size[1], every)
		}
	}
}

// wantRank takes the second way of chapter 7 from the seed on.
func wantRank(t *testing.T, d impl.Desk, width, height, every int) {
	t.Helper()
	line := "rank " + number(width) + " " + number(height) + " " + number(every)
	if !isSizeOfField(width, height) || every < 1 || every > 100 {
		wantKept(t, d, line, "no")
		return
	}
	seed := filledPlate(width, height, 0)
	for i := range seed.Ink {
		if i*7%every == 0 {
			seed.Ink[i] = 1
		}
	}
	table := weightTable(width, height)
	even, _ := evenedByTable(table, seed.Ink, 64)
	wantRun(t, d, line, "ok", withMatrix(d, matrixOf(width, height, ranksByTable(table, even)...)))
}

// TestRankGoesOnUntilTheFieldIsEven has the seeds that take the most steps, and looks whether each step counts.
func TestRankGoesOnUntilTheFieldIsEven(t *testing.T) {
	for _, s := range []struct{ width, height, every, steps int }{
		{42, 6, 3, 56}, {39, 6, 3, 52}, {15, 17, 3, 50}, {9, 27, 3, 48},
	} {
		seed, _ := impl.SeedField(s.width, s.height, s.every)
		even, steps := impl.EvenField(seed, 64)
		wantInt(t, "the steps from the seed", steps, s.steps)
		early, _ := impl.EvenField(seed, steps-1)
		ranks, _ := impl.RankField(even)
		others, _ := impl.RankField(early)
		wantBool(t, "one step less makes other ranks", slices.Equal(others.Ranks, ranks.Ranks), false)
		wantRank(t, impl.NewDesk(), s.width, s.height, s.every)
	}
}

func TestRefusedNumbers(t *testing.T) {
	for _, s := range goodDesks() {
		for _, line := range refusedLines() {
			wantKept(t, s.desk, line, "no")
		}
	}
}

func TestLevel(t *testing.T) {
	d := smallDesk(filledPlate(3, 2, 2))
	for ink, level := range map[int]string{0: "0", 21: "0", 22: "1", 127: "3", 128: "3", 212: "5", 233: "5", 234: "6", 255: "6"} {
		wantKept(t, d, "level "+number(ink), level)
	}
	wantKept(t, d, "level -1", "no")
	wantKept(t, d, "level 256", "no")
	for _, m := range screenMatrices() {
		for ink := range 256 {
			wantKept(t, withMatrix(d, m.matrix), "level "+number(ink), number(levelByDistance(len(m.matrix.Ranks), ink)))
		}
	}
}
