package tests

import (
	"slices"
	"testing"

	"loop.example/g03229/impl"
)

// ranker is a function of chapter 7 that returns a list, with the other arguments fixed.
type ranker struct {
	name string
	make func(p impl.Picture) []int
}

func rankers() []ranker {
	return []ranker{
		{"SwapStep", func(p impl.Picture) []int { return firstInk(impl.SwapStep(p)) }},
		{"EvenField without a step", func(p impl.Picture) []int { return inkOfSteps(impl.EvenField(p, 0)) }},
		{"EvenField", func(p impl.Picture) []int { return inkOfSteps(impl.EvenField(p, 3)) }},
		{"EvenField with too many steps", func(p impl.Picture) []int { return inkOfSteps(impl.EvenField(p, 65)) }},
		{"RankField", func(p impl.Picture) []int { return ranksOf(impl.RankField(p)) }},
		{"SeedField", func(p impl.Picture) []int { return firstInk(impl.SeedField(p.Width, p.Height, 3)) }},
		{"the numbers", numbersOfField},
	}
}

func inkOfSteps(p impl.Picture, _ int) []int {
	return p.Ink
}

func numbersOfField(p impl.Picture) []int {
	return []int{
		impl.PairWeight(p, 0, 1), impl.CrowdAt(p, 0), impl.CrowdAt(p, len(p.Ink)-1),
		impl.TightestDot(p), impl.WidestVoid(p), impl.RoughnessOf(p),
	}
}

func TestArgumentsOfRanksAreNotModified(t *testing.T) {
	for _, s := range append(goodFields(), badFields()...) {
		p := roomyCopy(s.picture)
		for _, f := range rankers() {
			f.make(p)
			wantUntouched(t, f.name+" of "+s.name, p, s.picture)
		}
		impl.IsField(p)
		wantUntouched(t, "IsField of "+s.name, p, s.picture)
	}
}

// TestResultsOfRanksAreNewMemory has what is no field, too: there p is returned unchanged.
func TestResultsOfRanksAreNewMemory(t *testing.T) {
	for _, s := range append(goodFields(), badFields()...) {
		for _, f := range rankers() {
			wantNewMemory(t, f.name+" of "+s.name, s.picture, f.make)
		}
	}
}

// TestFieldInTheMiddleOfALargerList gives a field whose list lies in the middle of other numbers.
func TestFieldInTheMiddleOfALargerList(t *testing.T) {
	list := []int{7, 7, 1, 1, 0, 0, 7, 7}
	before := slices.Clone(list)
	p := pictureOf(4, 1, list[2:6]...)
	wantStep(t, "a part of a list", p, true, 0, 1, 0, 1)
	wantRanks(t, "a part of a list", p, 1, 0, 2, 3)
	wantEven(t, "a part of a list", p, 64, 1, 0, 1, 0, 1)
	wantInts(t, "the whole list", list, before...)
}

func TestNilListsOfFieldsAreEmptyOnes(t *testing.T) {
	for _, p := range []impl.Picture{{Width: 2, Height: 2}, {Width: 2, Height: 2, Ink: []int{}}, {Width: -5}} {
		got, ok := impl.SwapStep(p)
		wantUnchanged(t, "a step without a list", got, ok, p)
		wantEven(t, "no list", p, 64, 0)
	}
}

func TestResultsOfRanksDependOnArgumentsOnly(t *testing.T) {
	for _, f := range rankers() {
		before := f.make(noisePicture(6, 7, 1))
		for _, s := range append(goodFields(), badFields()...) {
			f.make(s.picture)
		}
		wantInts(t, f.name+" later", f.make(noisePicture(6, 7, 1)), before...)
	}
}

// TestNoPanicWithRanks calls every function with numbers and pictures that fit together badly; a panic would end the test.
func TestNoPanicWithRanks(t *testing.T) {
	for _, a := range extremes {
		for _, b := range extremes {
			for _, length := range []int{0, 1, 2, 4, 65, 256, 257} {
				callAllOfRanks(pictureOf(a, b, make([]int, length)...), a, b)
			}
			callAllOfRanks(noisePicture(3, 3, 1), a, b)
			callAllOfRanks(filledPlate(3, 2, 0), a, b)
			callAllOfRanks(filledPlate(3, 2, 6), a, b)
			callAllOfRanks(pictureOf(1, 2, a, b), b, a)
		}
	}
}

func callAllOfRanks(p impl.Picture, a, b int) {
	impl.IsField(p)
	impl.PairWeight(p, a, b)
	impl.CrowdAt(p, a)
	impl.TightestDot(p)
	impl.WidestVoid(p)
	impl.SwapStep(p)
	impl.EvenField(p, a)
	impl.RankField(p)
	impl.SeedField(a, b, a)
	impl.SeedField(a, b, 7)
	impl.SeedField(3, 2, b)
	impl.RoughnessOf(p)
}
