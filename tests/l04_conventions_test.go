package tests

import (
	"slices"
	"testing"

	"loop.example/g03229/impl"
)

// diffuser is a function of chapter 5 that returns a list, with the other arguments fixed.
type diffuser struct {
	name string
	make func(k []impl.Part, p impl.Picture) []int
}

func diffusers() []diffuser {
	return []diffuser{
		{"SharesOf", func(k []impl.Part, p impl.Picture) []int { return impl.SharesOf(k, -77) }},
		{"DiffusePicture from the left", func(k []impl.Part, p impl.Picture) []int { return inkOfDiffusion(impl.DiffusePicture(k, p, false)) }},
		{"DiffusePicture on both ways", func(k []impl.Part, p impl.Picture) []int { return inkOfDiffusion(impl.DiffusePicture(k, p, true)) }},
		{"ErrorsOf from the left", func(k []impl.Part, p impl.Picture) []int { return impl.ErrorsOf(k, p, false) }},
		{"ErrorsOf on both ways", func(k []impl.Part, p impl.Picture) []int { return impl.ErrorsOf(k, p, true) }},
		{"RowDots", func(k []impl.Part, p impl.Picture) []int { return impl.RowDots(p.Ink) }},
		{"WeightOf", func(k []impl.Part, p impl.Picture) []int { return []int{impl.WeightOf(k)} }},
		{"MeanOf", func(k []impl.Part, p impl.Picture) []int { return listOfTwo(impl.MeanOf(p)) }},
	}
}

func inkOfDiffusion(p impl.Picture, _ int, _ bool) []int {
	return p.Ink
}

func listOfTwo(a, b int) []int {
	return []int{a, b}
}

func TestArgumentsOfDiffusionAreNotModified(t *testing.T) {
	for _, s := range append(goodKernels(), badKernels()...) {
		for _, r := range append(picturesAndPlates(), badPictures()...) {
			k, p := roomyKernel(s.parts), roomyCopy(r.picture)
			for _, f := range diffusers() {
				f.make(k, p)
			}
			impl.IsKernel(k)
			impl.MirrorKernel(k)
			wantUntouchedKernel(t, s.name+" and "+r.name, k, s.parts)
			wantUntouched(t, s.name+" and "+r.name, p, r.picture)
		}
	}
}

func TestResultsOfDiffusionAreNewMemory(t *testing.T) {
	for _, s := range goodKernels() {
		for _, r := range picturesAndPlates() {
			for _, f := range diffusers() {
				what := f.name + " of " + s.name + " and " + r.name
				k, p := roomyKernel(s.parts), roomyCopy(r.picture)
				result, again := f.make(k, p), f.make(k, p)
				want := slices.Clone(again)
				fillAll(result, 99)
				wantUntouchedKernel(t, what, k, s.parts)
				wantUntouched(t, what, p, r.picture)
				fillParts(k)
				fillAll(p.Ink, 98)
				wantInts(t, what+": a second result", again, want...)
			}
		}
	}
}

func TestMirroredKernelsAreNewMemory(t *testing.T) {
	for _, s := range goodKernels() {
		k := roomyKernel(s.parts)
		mirrored, ok := impl.MirrorKernel(k)
		if !ok {
			continue
		}
		again, _ := impl.MirrorKernel(k)
		want := slices.Clone(again)
		fillParts(mirrored)
		wantUntouchedKernel(t, "a mirrored kernel", k, s.parts)
		fillParts(k)
		wantParts(t, "a second mirrored kernel", again, want)
	}
}

func TestGivenKernelsAreNewMemory(t *testing.T) {
	for _, f := range []func() []impl.Part{impl.SteinKernel, impl.PlainKernel} {
		first, second := f(), f()
		want := slices.Clone(second)
		fillParts(first)
		wantParts(t, "a second kernel", second, want)
		wantParts(t, "a kernel later", f(), want)
	}
	wantInts(t, "RowDots later", impl.RowDots([]int{100, 100, 100}), 0, 1, 0)
}

func TestResultsOfDiffusionDependOnArgumentsOnly(t *testing.T) {
	for _, f := range diffusers() {
		k, p := impl.SteinKernel(), noisePicture(6, 7, 255)
		before := f.make(k, p)
		for _, s := range append(goodKernels(), badKernels()...) {
			f.make(s.parts, noisePicture(3, 4, 255))
		}
		for _, r := range append(picturesAndPlates(), badPictures()...) {
			f.make(impl.SteinKernel(), r.picture)
		}
		wantInts(t, f.name+" later", f.make(k, p), before...)
	}
}

// TestNoPanicWithDiffusion calls every function with numbers, kernels and pictures that fit together badly; a panic would end the test.
func TestNoPanicWithDiffusion(t *testing.T) {
	good := noisePicture(3, 3, 255)
	for _, a := range extremes {
		for _, b := range extremes {
			for _, c := range []int{extremes[0], -1, 0, 1, 100, extremes[len(extremes)-1]} {
				callAllOfDiffusion([]impl.Part{partOf(a, b, c)}, good, a)
				callAllOfDiffusion([]impl.Part{partOf(1, 0, c), partOf(b, a, c), partOf(a, b, a)}, good, b)
			}
			for _, length := range []int{0, 1, 2, 4, 65} {
				callAllOfDiffusion(impl.SteinKernel(), pictureOf(a, b, make([]int, length)...), b)
				callAllOfDiffusion(nil, pictureOf(a, b, make([]int, length)...), b)
			}
			callAllOfDiffusion(manyParts(12), pictureOf(1, 2, a, b), a)
		}
	}
}

func callAllOfDiffusion(k []impl.Part, p impl.Picture, a int) {
	impl.IsKernel(k)
	impl.WeightOf(k)
	impl.SharesOf(k, a)
	impl.DiffusePicture(k, p, false)
	impl.DiffusePicture(k, p, true)
	impl.ErrorsOf(k, p, false)
	impl.ErrorsOf(k, p, true)
	impl.MirrorKernel(k)
	impl.RowDots(p.Ink)
	impl.RowDots([]int{a, a})
	impl.MeanOf(p)
}
