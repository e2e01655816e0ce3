package tests

import (
	"testing"

	"loop.example/g03229/impl"
)

// matrixMaker is a function of chapter 3 that returns a matrix or a plate, as a picture, with the other arguments fixed.
type matrixMaker struct {
	name string
	make func(m impl.Matrix) impl.Picture
}

func matrixMakers() []matrixMaker {
	return []matrixMaker{
		{"BayerMatrix", func(m impl.Matrix) impl.Picture { return firstAsPicture(impl.BayerMatrix(3)) }},
		{"DoubleMatrix", func(m impl.Matrix) impl.Picture { return firstAsPicture(impl.DoubleMatrix(m)) }},
		{"RowMatrix", func(m impl.Matrix) impl.Picture { return firstAsPicture(impl.RowMatrix(m.Width, m.Height)) }},
		{"SpiralMatrix", func(m impl.Matrix) impl.Picture { return firstAsPicture(impl.SpiralMatrix(m.Height)) }},
		{"ReverseMatrix", func(m impl.Matrix) impl.Picture { return asPicture(impl.ReverseMatrix(m)) }},
		{"ShiftMatrix by nothing", func(m impl.Matrix) impl.Picture { return asPicture(impl.ShiftMatrix(m, 0, 0)) }},
		{"ShiftMatrix by its sides", func(m impl.Matrix) impl.Picture { return asPicture(impl.ShiftMatrix(m, m.Width, -m.Height)) }},
		{"ShiftMatrix", func(m impl.Matrix) impl.Picture { return asPicture(impl.ShiftMatrix(m, 3, -1)) }},
		{"CellsBelow 0", func(m impl.Matrix) impl.Picture { return impl.CellsBelow(m, 0) }},
		{"CellsBelow n", func(m impl.Matrix) impl.Picture { return impl.CellsBelow(m, len(m.Ranks)) }},
	}
}

func firstAsPicture(m impl.Matrix, _ bool) impl.Picture {
	return asPicture(m)
}

func TestMatricesAreNotModified(t *testing.T) {
	for _, s := range append(goodMatrices(), badMatrices()...) {
		room := roomyMatrix(s.matrix)
		for _, f := range matrixMakers() {
			f.make(room)
			wantUntouched(t, f.name+" of "+s.name, asPicture(room), asPicture(s.matrix))
		}
		impl.IsMatrix(room)
		impl.RankAt(room, -1, 1)
		impl.SpreadOf(room, len(room.Ranks)/2)
		wantUntouched(t, "the argument "+s.name, asPicture(room), asPicture(s.matrix))
	}
}

func TestResultsOfMatricesAreNewMemory(t *testing.T) {
	for _, s := range goodMatrices() {
		for _, f := range matrixMakers() {
			what := f.name + " of " + s.name
			room := roomyMatrix(s.matrix)
			result, again := f.make(room), f.make(room)
			fillAll(result.Ink, 99)
			wantUntouched(t, what, asPicture(room), asPicture(s.matrix))
			wantPicture(t, what+": a second result", again, f.make(s.matrix))
			fillAll(room.Ranks, 98)
			wantPicture(t, what+": after a change of the argument", again, f.make(s.matrix))
		}
	}
}

func TestResultsOfMatricesDependOnArgumentsOnly(t *testing.T) {
	for _, f := range matrixMakers() {
		before := f.make(mixedMatrix(5, 4))
		for _, s := range append(goodMatrices(), badMatrices()...) {
			f.make(s.matrix)
		}
		wantPicture(t, f.name+" later", f.make(mixedMatrix(5, 4)), before)
	}
}

// TestNoPanicWithMatrices calls every function with numbers and matrices that fit together badly; a panic would end the test.
func TestNoPanicWithMatrices(t *testing.T) {
	for _, a := range extremes {
		for _, b := range extremes {
			for _, length := range []int{0, 1, 2, 4, 257} {
				callAllOfMatrices(matrixOf(a, b, countedMatrix(length, 1).Ranks...), a, b)
			}
			callAllOfMatrices(mixedMatrix(3, 2), a, b)
			callAllOfMatrices(mixedMatrix(1, 256), a, b)
			callAllOfMatrices(matrixOf(1, 2, a, b), b, a)
		}
	}
}

func callAllOfMatrices(m impl.Matrix, a, b int) {
	impl.IsMatrix(m)
	impl.RankAt(m, a, b)
	impl.BayerMatrix(a)
	impl.DoubleMatrix(m)
	impl.BayerRank(a, b, a)
	impl.BayerRank(4, a, b)
	impl.RowMatrix(a, b)
	impl.SpiralMatrix(a)
	impl.ReverseMatrix(m)
	impl.ShiftMatrix(m, a, b)
	impl.CellsBelow(m, a)
	impl.SpreadOf(m, a)
}
