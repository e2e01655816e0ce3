package tests

import (
	"slices"
	"testing"

	"loop.example/g03229/impl"
)

// spotter is a function of chapter 6 that returns a list, with the other arguments fixed.
type spotter struct {
	name string
	make func(l impl.Lattice) []int
}

func spotters() []spotter {
	return []spotter{
		{"SpotRanks", impl.SpotRanks},
		{"SpotPlate of no level", func(l impl.Lattice) []int { return firstInk(impl.SpotPlate(l, 0, 5, 4)) }},
		{"SpotPlate", func(l impl.Lattice) []int { return firstInk(impl.SpotPlate(l, impl.AreaOf(l)/2, 9, 7)) }},
		{"SpotPlate of one point", func(l impl.Lattice) []int { return firstInk(impl.SpotPlate(l, 1, 1, 1)) }},
		{"SpotMatrix", func(l impl.Lattice) []int { return ranksOf(impl.SpotMatrix(l)) }},
		{"NameOf", func(l impl.Lattice) []int { return []int{impl.NameOf(l, -5, 7)} }},
		{"NearOf and TurnName", func(l impl.Lattice) []int { return []int{impl.NearOf(l, 1), impl.TurnName(l, 1)} }},
	}
}

func ranksOf(m impl.Matrix, _ bool) []int {
	return m.Ranks
}

func TestResultsOfLatticesAreNewMemory(t *testing.T) {
	for _, l := range eachLattice() {
		for _, f := range spotters() {
			result, again := f.make(l), f.make(l)
			want := slices.Clone(again)
			fillAll(result, 99)
			wantInts(t, f.name+" of "+latticeName(l)+": a second result", again, want...)
			wantInts(t, f.name+" of "+latticeName(l)+": a later result", f.make(l), want...)
		}
	}
}

func TestResultsOfLatticesDependOnArgumentsOnly(t *testing.T) {
	for _, f := range spotters() {
		before := f.make(latticeOf(4, 2))
		for _, l := range append(eachLattice(), badLattices()...) {
			f.make(l)
		}
		wantInts(t, f.name+" later", f.make(latticeOf(4, 2)), before...)
	}
}

// TestNoPanicWithLattices calls every function with numbers that fit together badly; a panic would end the test.
func TestNoPanicWithLattices(t *testing.T) {
	for _, a := range extremes {
		for _, b := range extremes {
			callAllOfLattices(latticeOf(a, b), 1, 1)
			callAllOfLattices(latticeOf(a, b), a, b)
			callAllOfLattices(latticeOf(b, 3), b, a)
			for _, l := range []impl.Lattice{latticeOf(1, 0), latticeOf(3, 4), latticeOf(12, 11), latticeOf(12, 12)} {
				callAllOfLattices(l, a, b)
			}
		}
	}
}

func callAllOfLattices(l impl.Lattice, a, b int) {
	impl.IsLattice(l)
	impl.AreaOf(l)
	impl.HasPoint(l, a, b)
	impl.NameOf(l, a, b)
	impl.PointOf(l, a)
	impl.PeriodOf(l)
	impl.NearOf(l, a)
	impl.SpotRanks(l)
	impl.SpotPlate(l, a, b, a)
	impl.SpotPlate(l, 1, a, b)
	impl.SpotPlate(l, a, 3, 2)
	impl.TurnName(l, a)
	impl.SpotMatrix(l)
	impl.TurnedLattice(l)
}
