package tests

import (
	"slices"
	"testing"

	"loop.example/g03229/impl"
)

func TestIsKernel(t *testing.T) {
	for _, s := range goodKernels() {
		wantBool(t, s.name, impl.IsKernel(s.parts), true)
	}
	for _, s := range badKernels() {
		wantBool(t, s.name, impl.IsKernel(s.parts), false)
	}
	wantInt(t, "MaxParts", impl.MaxParts, 12)
	wantInt(t, "MaxWeight", impl.MaxWeight, 100)
}

func TestIsKernelOfEachPlace(t *testing.T) {
	for dx := -7; dx <= 7; dx++ {
		for dy := -3; dy <= 7; dy++ {
			want := dx >= -4 && dx <= 4 && dy >= 1 && dy <= 4 || dy == 0 && dx >= 1 && dx <= 4
			what := "the place " + pointName(dx, dy)
			wantBool(t, what, impl.IsKernel([]impl.Part{partOf(dx, dy, 1)}), want)
			taken := dy == 4 && dx == -4 || dy == 3 && dx == 4
			three := []impl.Part{partOf(-4, 4, 100), partOf(4, 3, 1), partOf(dx, dy, 100)}
			wantBool(t, what+" behind two others", impl.IsKernel(three), want && !taken)
		}
	}
}

func TestIsKernelOfExtremePlaces(t *testing.T) {
	for _, a := range extremes {
		for _, b := range extremes {
			want := a >= -4 && a <= 4 && b >= 0 && b <= 4 && (b > 0 || a > 0)
			what := "the place " + pointName(a, b)
			wantBool(t, what, impl.IsKernel([]impl.Part{partOf(a, b, 1)}), want)
			wantBool(t, what+" behind another", impl.IsKernel([]impl.Part{partOf(4, 0, 1), partOf(a, b, 1)}), want)
		}
	}
}

func TestIsKernelOfEachWeight(t *testing.T) {
	for _, weight := range append([]int{-100, 50, 99, 100, 101, 102, 200}, extremes...) {
		want := weight >= 1 && weight <= 100
		wantBool(t, "the weight "+number(weight), impl.IsKernel([]impl.Part{partOf(1, 0, weight)}), want)
		wantBool(t, "the last weight "+number(weight), impl.IsKernel([]impl.Part{partOf(1, 0, 5), partOf(0, 1, weight)}), want)
		wantBool(t, "the first weight "+number(weight), impl.IsKernel([]impl.Part{partOf(1, 0, weight), partOf(0, 1, 5)}), want)
	}
}

func TestIsKernelOfEachLength(t *testing.T) {
	for count := range 37 {
		wantBool(t, number(count)+" parts", impl.IsKernel(manyParts(count)), count >= 1 && count <= 12)
	}
}

func TestIsKernelOfTwoParts(t *testing.T) {
	places := manyParts(36)
	for dx := 1; dx <= 4; dx++ {
		places = append(places, partOf(dx, 0, 1))
	}
	for i, a := range places {
		for k, b := range places {
			b.Weight = a.Weight + 1
			wantBool(t, "two parts", impl.IsKernel([]impl.Part{a, b}), i != k)
			wantBool(t, "two parts with equal weights", impl.IsKernel([]impl.Part{partOf(a.DX, a.DY, 4), partOf(b.DX, b.DY, 4)}), i != k)
		}
	}
}

func TestWeightOf(t *testing.T) {
	for _, s := range goodKernels() {
		wantInt(t, "the weight of "+s.name, impl.WeightOf(s.parts), sumOfWeights(s.parts))
	}
	for _, s := range badKernels() {
		wantInt(t, "the weight of "+s.name, impl.WeightOf(s.parts), 0)
	}
	wantInt(t, "one weight", impl.WeightOf([]impl.Part{partOf(0, 1, 1)}), 1)
	wantInt(t, "two weights", impl.WeightOf([]impl.Part{partOf(0, 1, 100), partOf(1, 0, 2)}), 102)
	heavy := manyParts(12)
	for i := range heavy {
		heavy[i].Weight = 100
	}
	wantInt(t, "the greatest weight", impl.WeightOf(heavy), 1200)
}

func TestKernelsThatAreGiven(t *testing.T) {
	wantParts(t, "SteinKernel", impl.SteinKernel(), []impl.Part{partOf(1, 0, 7), partOf(-1, 1, 3), partOf(0, 1, 5), partOf(1, 1, 1)})
	wantParts(t, "PlainKernel", impl.PlainKernel(), []impl.Part{partOf(1, 0, 1)})
	wantBool(t, "SteinKernel is a kernel", impl.IsKernel(impl.SteinKernel()), true)
	wantBool(t, "PlainKernel is a kernel", impl.IsKernel(impl.PlainKernel()), true)
	wantInt(t, "the weight of SteinKernel", impl.WeightOf(impl.SteinKernel()), 16)
	wantInt(t, "the weight of PlainKernel", impl.WeightOf(impl.PlainKernel()), 1)
}

func wantNoKernel(t *testing.T, what string, got []impl.Part, ok bool) {
	t.Helper()
	wantBool(t, what, ok, false)
	wantParts(t, what, got, nil)
}

func TestMirrorKernelExamples(t *testing.T) {
	got, ok := impl.MirrorKernel([]impl.Part{partOf(-1, 1, 3), partOf(0, 1, 5), partOf(4, 2, 7), partOf(-4, 4, 100)})
	wantBool(t, "parts below", ok, true)
	wantParts(t, "parts below", got, []impl.Part{partOf(1, 1, 3), partOf(0, 1, 5), partOf(-4, 2, 7), partOf(4, 4, 100)})
	got, ok = impl.MirrorKernel([]impl.Part{partOf(-2, 3, 1), partOf(2, 3, 9)})
	wantBool(t, "parts that change places", ok, true)
	wantParts(t, "parts that change places", got, []impl.Part{partOf(2, 3, 1), partOf(-2, 3, 9)})
	got, ok = impl.MirrorKernel(impl.SteinKernel())
	wantNoKernel(t, "SteinKernel", got, ok)
	got, ok = impl.MirrorKernel(impl.PlainKernel())
	wantNoKernel(t, "PlainKernel", got, ok)
	got, ok = impl.MirrorKernel([]impl.Part{partOf(0, 1, 1), partOf(1, 1, 1), partOf(4, 0, 1)})
	wantNoKernel(t, "the last part would be to the left", got, ok)
}

func TestMirrorKernel(t *testing.T) {
	for _, s := range goodKernels() {
		got, ok := impl.MirrorKernel(s.parts)
		if slices.ContainsFunc(s.parts, func(part impl.Part) bool { return part.DY == 0 }) {
			wantNoKernel(t, "the mirrored kernel of "+s.name, got, ok)
			continue
		}
		var want []impl.Part
		for _, part := range s.parts {
			want = append(want, partOf(0-part.DX, part.DY, part.Weight))
		}
		wantBool(t, "the mirrored kernel of "+s.name, ok, true)
		wantParts(t, "the mirrored kernel of "+s.name, got, want)
		wantBool(t, "the mirrored kernel is one: "+s.name, impl.IsKernel(got), true)
		back, ok := impl.MirrorKernel(got)
		wantBool(t, "mirrored twice: "+s.name, ok, true)
		wantParts(t, "mirrored twice: "+s.name, back, s.parts)
	}
	for _, s := range badKernels() {
		got, ok := impl.MirrorKernel(s.parts)
		wantNoKernel(t, "the mirrored kernel of "+s.name, got, ok)
	}
}

// TestMirrorKernelOfWhatWouldBecomeOne gives parts that are no kernel, although the mirrored ones would be.
func TestMirrorKernelOfWhatWouldBecomeOne(t *testing.T) {
	for dx := -4; dx <= 0; dx++ {
		got, ok := impl.MirrorKernel([]impl.Part{partOf(dx, 0, 1)})
		wantNoKernel(t, "the place "+pointName(dx, 0), got, ok)
		got, ok = impl.MirrorKernel([]impl.Part{partOf(1, 1, 2), partOf(dx, 0, 1)})
		wantNoKernel(t, "the last place "+pointName(dx, 0), got, ok)
	}
}
