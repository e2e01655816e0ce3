package tests

import (
	"slices"
	"testing"

	"loop.example/g03229/impl"
)

func wantRanks(t *testing.T, what string, p impl.Picture, want ...int) {
	t.Helper()
	got, ok := impl.RankField(p)
	wantMatrixOk(t, "the ranks of "+what, got, ok, matrixOf(p.Width, p.Height, want...))
}

func TestRankFieldExamples(t *testing.T) {
	wantRanks(t, "one void", pictureOf(1, 1, 0), 0)
	wantRanks(t, "one dot", pictureOf(1, 1, 1), 0)
	wantRanks(t, "a void and a dot", pictureOf(2, 1, 0, 1), 1, 0)
	wantRanks(t, "a dot and a void", pictureOf(1, 2, 1, 0), 0, 1)
	wantRanks(t, "two dots and two voids", pictureOf(4, 1, 1, 1, 0, 0), 1, 0, 2, 3)
	wantRanks(t, "three points without a dot", filledPlate(3, 1, 0), 0, 1, 2)
	wantRanks(t, "three dots", filledPlate(3, 1, 3), 2, 1, 0)
	wantRanks(t, "a row without a dot", filledPlate(4, 1, 0), 0, 2, 1, 3)
	wantRanks(t, "a column without a dot", filledPlate(1, 4, 0), 0, 2, 1, 3)
	wantRanks(t, "a row with dots only", filledPlate(4, 1, 4), 3, 1, 2, 0)
	wantRanks(t, "a square without a dot", filledPlate(2, 2, 0), 0, 2, 3, 1)
	wantRanks(t, "a square with dots only", filledPlate(2, 2, 4), 3, 1, 0, 2)
	wantRanks(t, "a square with one dot", pictureOf(2, 2, 0, 0, 0, 1), 1, 2, 3, 0)
	wantRanks(t, "a square with one void", pictureOf(2, 2, 1, 0, 1, 1), 1, 3, 2, 0)
}

func TestRankField(t *testing.T) {
	for _, s := range allFields() {
		table := weightTable(s.picture.Width, s.picture.Height)
		wantRanks(t, s.name, s.picture, ranksByTable(table, s.picture.Ink)...)
	}
}

// The tests that follow are those of promise P6.

func TestRanksBeginWithTheirField(t *testing.T) {
	for _, s := range allFields() {
		m, ok := impl.RankField(s.picture)
		wantBool(t, "the ranks of "+s.name, ok, true)
		wantBool(t, "the ranks of "+s.name+" are a matrix", impl.IsMatrix(m), true)
		wantPicture(t, "what the ranks of "+s.name+" begin with", impl.CellsBelow(m, impl.SumInk(s.picture)), s.picture)
	}
}

// TestEachRankIsPlacedWhereTheRuleSays looks at each level: what the rule says of it depends on that level alone.
func TestEachRankIsPlacedWhereTheRuleSays(t *testing.T) {
	for _, s := range goodFields() {
		m, _ := impl.RankField(s.picture)
		table := weightTable(m.Width, m.Height)
		dots := impl.SumInk(s.picture)
		for rank := range len(m.Ranks) {
			place := slices.Index(m.Ranks, rank)
			what := "the rank " + number(rank) + " of " + s.name
			if rank < dots {
				level := impl.CellsBelow(m, rank+1)
				wantInt(t, what, place, tightestByTable(table, level.Ink))
				wantInt(t, what+" and the tightest dot", place, impl.TightestDot(level))
			} else {
				level := impl.CellsBelow(m, rank)
				wantInt(t, what, place, widestByTable(table, level.Ink))
				wantInt(t, what+" and the widest void", place, impl.WidestVoid(level))
			}
		}
	}
}

// TestRanksOfEvenSeeds takes the way by which matrices are made in the end: a seed, steps, and ranks.
func TestRanksOfEvenSeeds(t *testing.T) {
	for _, size := range [][2]int{{1, 1}, {4, 4}, {8, 8}, {9, 5}, {16, 16}, {64, 4}} {
		table := weightTable(size[0], size[1])
		for _, every := range []int{1, 2, 5, 10, 64, 100} {
			seed, _ := impl.SeedField(size[0], size[1], every)
			even, _ := impl.EvenField(seed, 64)
			evened, _ := evenedByTable(table, seedByMultiples(size[0], size[1], every), 64)
			wantRanks(t, "a seed with every "+number(every)+", "+sizeName(size[0], size[1]), even, ranksByTable(table, evened)...)
		}
	}
}
