package tests

import (
	"math"
	"slices"
	"strings"
	"testing"

	"loop.example/g03229/impl"
)

// printer is a function of chapter 8 that takes a plate, with the other arguments fixed.
type printer struct {
	name string
	make func(p impl.Picture) []int
}

func printers() []printer {
	return []printer{
		{"GrowPlate", func(p impl.Picture) []int { return impl.GrowPlate(p).Ink }},
		{"ShrinkPlate", func(p impl.Picture) []int { return impl.ShrinkPlate(p).Ink }},
		{"RunsOf", impl.RunsOf},
		{"PlateOfRuns", func(p impl.Picture) []int { return firstInk(impl.PlateOfRuns(p.Width, p.Height, impl.RunsOf(p))) }},
		{"PlateOfRuns of amounts", func(p impl.Picture) []int { return firstInk(impl.PlateOfRuns(p.Width, p.Height, p.Ink)) }},
		{"ParseDots", func(p impl.Picture) []int { return firstInk(impl.ParseDots(impl.DotText(p))) }},
		{"CrossPlates", func(p impl.Picture) []int { return inkOfPlates(impl.CrossPlates(p.Ink, p.Ink)) }},
		{"CrossPlates of one row", func(p impl.Picture) []int { return inkOfPlates(impl.CrossPlates([]int{1}, p.Ink)) }},
		{"CrossPlates of one column", func(p impl.Picture) []int { return inkOfPlates(impl.CrossPlates(p.Ink, []int{1})) }},
		{"the numbers", numbersOfPlate},
	}
}

func inkOfPlates(plates []impl.Picture, _ bool) []int {
	if len(plates) == 0 {
		return nil
	}
	return plates[0].Ink
}

func numbersOfPlate(p impl.Picture) []int {
	multiply := 0
	if impl.SharesMultiply(p, p) {
		multiply = 1
	}
	return []int{impl.GainOf(p), int(math.Float32bits(impl.ToneOf(p))), multiply}
}

func TestArgumentsOfPrintersAreNotModified(t *testing.T) {
	for _, s := range append(allPlates(), badPlates()...) {
		p := roomyCopy(s.picture)
		for _, f := range printers() {
			f.make(p)
			wantUntouched(t, f.name+" of "+s.name, p, s.picture)
		}
	}
}

func TestResultsOfPrintersAreNewMemory(t *testing.T) {
	for _, s := range allPlates() {
		for _, f := range printers() {
			wantNewMemory(t, f.name+" of "+s.name, s.picture, f.make)
		}
	}
}

func TestArgumentsOfStacksAreNotModified(t *testing.T) {
	for _, s := range append(goodStacks(), badStacks()...) {
		stack := roomyStack(s.plates)
		for count := range 18 {
			list := slices.Repeat([]int{count}, count)
			colors := roomyList(list)
			impl.BlendOf(stack, colors)
			wantUntouchedList(t, "the colors for "+s.name, colors, list)
		}
		impl.IsStack(stack)
		impl.MarkAt(stack, 0, 0)
		impl.MarkCounts(stack)
		for _, p := range stack {
			impl.SharesMultiply(p, stack[0])
		}
		wantUntouchedStack(t, s.name, stack, s.plates)
	}
}

func TestMarkCountsAreNewMemory(t *testing.T) {
	for _, s := range goodStacks() {
		stack := roomyStack(s.plates)
		counts, again := impl.MarkCounts(stack), impl.MarkCounts(stack)
		want := slices.Clone(again)
		fillAll(counts, 99)
		wantUntouchedStack(t, s.name, stack, s.plates)
		wantInts(t, "a second result for "+s.name, again, want...)
	}
}

// TestCrossPlatesShareNoMemory writes into one of the plates and looks at the other one.
func TestCrossPlatesShareNoMemory(t *testing.T) {
	for place := range 2 {
		rows, columns := roomyList([]int{1, 0, 1}), roomyList([]int{0, 1, 1, 1})
		plates, _ := impl.CrossPlates(rows, columns)
		fillAll(plates[place].Ink, 99)
		want := [][]int{{0, 1, 1, 1, 0, 1, 1, 1, 0, 1, 1, 1}, {1, 1, 1, 1, 0, 0, 0, 0, 1, 1, 1, 1}}
		wantInts(t, "the other plate", plates[1-place].Ink, want[1-place]...)
		wantUntouchedList(t, "the rows", rows, []int{1, 0, 1})
		wantUntouchedList(t, "the columns", columns, []int{0, 1, 1, 1})
	}
	list := roomyList([]int{1, 0})
	plates, _ := impl.CrossPlates(list, list)
	fillAll(list, 99)
	wantInts(t, "the first plate of one list", plates[0].Ink, 1, 0, 1, 0)
	wantInts(t, "the second plate of one list", plates[1].Ink, 1, 1, 0, 0)
}

func TestRunsAreNotModified(t *testing.T) {
	for _, list := range [][]int{{}, {0, 2, 1}, {3}, {1, 1, 1}, {0, 3}, {1, 0, 2}, {-1, 4}, {2}, {4}, {math.MaxInt, 1}} {
		runs := roomyList(list)
		plate, _ := impl.PlateOfRuns(3, 1, runs)
		fillAll(plate.Ink, 99)
		wantUntouchedList(t, "the runs", runs, list)
	}
}

// TestPlateInTheMiddleOfALargerList gives a plate whose list lies in the middle of other numbers.
func TestPlateInTheMiddleOfALargerList(t *testing.T) {
	list := []int{1, 7, 1, 0, 0, 0, 0, 0, 7, 1}
	before := slices.Clone(list)
	p := pictureOf(3, 2, list[2:8]...)
	wantGrowth(t, "a part of a list", p, 1, 1, 1, 1, 0, 0)
	wantShrunk(t, "a part of a list", p, 0, 0, 0, 0, 0, 0)
	wantRuns(t, "a part of a list", p, 0, 1, 5)
	wantText(t, "a part of a list", p, "#..\n...\n")
	wantInts(t, "the marks of a part of a list", impl.MarkCounts(stackOf(p, p)), 5, 0, 0, 1)
	wantInts(t, "the whole list", list, before...)
}

// TestPlatesThatShareMemory has a stack whose plates are parts of one list.
func TestPlatesThatShareMemory(t *testing.T) {
	list := []int{1, 1, 0, 0, 1, 0}
	stack := stackOf(pictureOf(4, 1, list[:4]...), pictureOf(4, 1, list[1:5]...), pictureOf(4, 1, list[2:]...))
	wantInts(t, "the marks", impl.MarkCounts(stack), 0, 1, 1, 1, 1, 0, 0, 0)
	wantInt(t, "the first mark", impl.MarkAt(stack, 0, 0), 3)
	wantInts(t, "the list", list, 1, 1, 0, 0, 1, 0)
}

func TestNilListsOfStacksAreEmptyOnes(t *testing.T) {
	wantBool(t, "an empty stack", impl.IsStack([]impl.Picture{}), impl.IsStack(nil))
	wantNoBlend(t, "an empty stack", []impl.Picture{}, []int{})
	wantNoBlend(t, "a stack with empty colors", stackOf(pictureOf(1, 1, 1)), []int{})
	wantNoCross(t, "empty lists", []int{}, []int{})
	plate, ok := impl.PlateOfRuns(1, 1, []int{})
	wantRefused(t, "empty runs", plate, ok)
}

func TestResultsOfPrintersDependOnArgumentsOnly(t *testing.T) {
	for _, f := range printers() {
		before := f.make(noisePicture(6, 7, 1))
		for _, s := range append(goodPlates(), badPlates()...) {
			f.make(s.picture)
		}
		wantInts(t, f.name+" later", f.make(noisePicture(6, 7, 1)), before...)
	}
}

// TestNoPanicWithStacks calls every function with numbers, lists and plates that fit together badly; a panic would end the test.
func TestNoPanicWithStacks(t *testing.T) {
	for _, a := range extremes {
		for _, b := range extremes {
			for _, length := range []int{0, 1, 2, 4, 65} {
				callAllOfStacks(pictureOf(a, b, make([]int, length)...), a, b)
			}
			callAllOfStacks(noisePicture(3, 3, 1), a, b)
			callAllOfStacks(filledPlate(1, 1, 1), a, b)
			callAllOfStacks(pictureOf(1, 2, a, b), b, a)
			callAllOfStacks(pictureOf(2, 1, b, a), b, a)
		}
	}
}

func callAllOfStacks(p impl.Picture, a, b int) {
	good := filledPlate(2, 1, 1)
	for _, stack := range [][]impl.Picture{nil, {p}, {p, p}, {p, good}, {good, p}, {good, good, p, good}, {p, p, p, p, p}} {
		impl.IsStack(stack)
		impl.MarkAt(stack, a, b)
		impl.MarkCounts(stack)
		impl.BlendOf(stack, []int{a, b})
		impl.BlendOf(stack, []int{a, b, b, a})
		impl.BlendOf(stack, p.Ink)
	}
	impl.MarkAt(stackOf(good), a, b)
	impl.BlendOf(stackOf(good), []int{a, b})
	impl.SharesMultiply(p, good)
	impl.SharesMultiply(good, p)
	impl.SharesMultiply(p, p)
	impl.CrossPlates(p.Ink, []int{a, b})
	impl.CrossPlates([]int{a, b}, p.Ink)
	impl.GrowPlate(p)
	impl.ShrinkPlate(p)
	impl.GainOf(p)
	impl.RunsOf(p)
	impl.PlateOfRuns(a, b, p.Ink)
	impl.PlateOfRuns(2, 3, []int{a, b, a, b})
	impl.PlateOfRuns(2, 3, []int{0, a, b})
	impl.DotText(p)
	impl.ToneOf(p)
}

func TestNoPanicWithTexts(t *testing.T) {
	rows := []string{"", "#", ".#", "##.", "\x00\xff", "\xf0\x9f\x98\x80", strings.Repeat("#", 65), strings.Repeat("\xff", 1000)}
	for _, first := range rows {
		for _, second := range rows {
			for _, third := range rows {
				impl.ParseDots(first + "\n" + second + "\n" + third)
				impl.ParseDots(first + second + "\n" + third + "\n")
			}
		}
	}
}
