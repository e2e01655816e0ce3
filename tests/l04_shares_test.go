package tests

import (
	"testing"

	"loop.example/g03229/impl"
)

func TestSharesOfExamples(t *testing.T) {
	stein := impl.SteinKernel()
	wantInts(t, "no error", impl.SharesOf(stein, 0), 0, 0, 0, 0)
	wantInts(t, "1", impl.SharesOf(stein, 1), 1, 0, 0, 0)
	wantInts(t, "-1", impl.SharesOf(stein, -1), 2, -1, -1, -1)
	wantInts(t, "10", impl.SharesOf(stein, 10), 6, 1, 3, 0)
	wantInts(t, "-10", impl.SharesOf(stein, -10), -3, -2, -4, -1)
	wantInts(t, "the weight", impl.SharesOf(stein, 16), 7, 3, 5, 1)
	wantInts(t, "less by the weight", impl.SharesOf(stein, -16), -7, -3, -5, -1)
	wantInts(t, "one more than the weight", impl.SharesOf(stein, 17), 8, 3, 5, 1)
	wantInts(t, "-17", impl.SharesOf(stein, -17), -5, -4, -6, -2)
	wantInts(t, "the greatest error", impl.SharesOf(stein, 1000000), 437500, 187500, 312500, 62500)
	wantInts(t, "the least error", impl.SharesOf(stein, -1000000), -437500, -187500, -312500, -62500)
	wantInts(t, "999999", impl.SharesOf(stein, 999999), 437502, 187499, 312499, 62499)
}

func TestSharesOfOnePart(t *testing.T) {
	for _, k := range [][]impl.Part{impl.PlainKernel(), {partOf(1, 0, 100)}, {partOf(-4, 4, 37)}} {
		for _, e := range []int{-1000000, -999999, -128, -1, 0, 1, 127, 999999, 1000000} {
			wantInts(t, "one part and "+number(e), impl.SharesOf(k, e), e)
		}
	}
}

// TestSharesOfFirstPart moves the same weights to other places in the list: the first one gets what is missing.
func TestSharesOfFirstPart(t *testing.T) {
	a, b, c := partOf(1, 0, 1), partOf(0, 1, 1), partOf(1, 1, 1)
	wantInts(t, "three equal weights and 2", impl.SharesOf([]impl.Part{a, b, c}, 2), 2, 0, 0)
	wantInts(t, "three equal weights and -2", impl.SharesOf([]impl.Part{a, b, c}, -2), 0, -1, -1)
	wantInts(t, "three equal weights and -1", impl.SharesOf([]impl.Part{c, b, a}, -1), 1, -1, -1)
	b.Weight = 100
	wantInts(t, "the small one first and 100", impl.SharesOf([]impl.Part{a, b}, 100), 1, 99)
	wantInts(t, "the large one first and 100", impl.SharesOf([]impl.Part{b, a}, 100), 100, 0)
	wantInts(t, "the small one first and -100", impl.SharesOf([]impl.Part{a, b}, -100), 0, -100)
	wantInts(t, "the large one first and -100", impl.SharesOf([]impl.Part{b, a}, -100), -99, -1)
	var equal []impl.Part
	for i := range 12 {
		equal = append(equal, partOf(i%4, 1+i/4, 5))
	}
	wantInts(t, "twelve parts and 11", impl.SharesOf(equal, 11), 11, 0, 0, 0, 0, 0, 0, 0, 0, 0, 0, 0)
	wantInts(t, "twelve parts and -1", impl.SharesOf(equal, -1), 10, -1, -1, -1, -1, -1, -1, -1, -1, -1, -1, -1)
}

func TestSharesOf(t *testing.T) {
	errors := []int{-1000000, -999999, -123457, -4096, 4095, 65535, 333333, 999983, 999999, 1000000}
	for e := -700; e <= 700; e++ {
		errors = append(errors, e)
	}
	for _, s := range goodKernels() {
		for _, e := range errors {
			got := impl.SharesOf(s.parts, e)
			what := "the shares of " + number(e) + " of " + s.name
			wantInts(t, what, got, sharesByLifting(s.parts, e)...)
			wantInt(t, what+" add up", sumOfInts(got), e)
		}
	}
}

// TestSharesAreRoundedDown checks the rule itself: a share but the first is not above its part of e, and less than 1 below.
func TestSharesAreRoundedDown(t *testing.T) {
	for _, s := range goodKernels() {
		whole := sumOfWeights(s.parts)
		for e := -300; e <= 300; e++ {
			for i, share := range impl.SharesOf(s.parts, e) {
				over := e*s.parts[i].Weight - share*whole
				fits := over >= 0 && over < whole || i == 0 && over <= 0 && over > -whole*12
				wantBool(t, "the share of "+number(e)+" of "+s.name, fits, true)
			}
		}
	}
}

func TestSharesOfNoError(t *testing.T) {
	for _, s := range goodKernels() {
		for _, e := range append([]int{-1000001, 1000001, -1000002, 1000002, -2000000, 2000000}, extremes...) {
			if e >= -1000000 && e <= 1000000 {
				continue
			}
			wantInts(t, "the shares of "+number(e)+" of "+s.name, impl.SharesOf(s.parts, e))
		}
	}
}

func TestSharesOfNoKernel(t *testing.T) {
	for _, s := range badKernels() {
		for _, e := range append([]int{-1000000, 100, 1000000}, extremes...) {
			wantInts(t, "the shares of "+s.name, impl.SharesOf(s.parts, e))
		}
	}
}
