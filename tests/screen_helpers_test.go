package tests

import (
	"slices"
	"testing"

	"loop.example/g03229/impl"
)

func wantInts(t *testing.T, what string, got []int, want ...int) {
	t.Helper()
	if !slices.Equal(got, want) {
		t.Errorf("%s: got %v, want %v", what, got, want)
	}
}

// screenMatrices holds one of each kind of goodMatrices and some of the formulas of chapter 3.
func screenMatrices() []namedMatrix {
	matrices := goodMatrices()
	for k := 0; k <= 4; k++ {
		bayer, _ := impl.BayerMatrix(k)
		matrices = append(matrices, namedMatrix{"Bayer " + number(k), bayer})
	}
	spiral, _ := impl.SpiralMatrix(7)
	return append(matrices, namedMatrix{"a spiral", spiral})
}

// levelByDistance looks for the level whose share of the cells is nearest to the share of the ink.
func levelByDistance(n, ink int) int {
	distance := func(level int) int {
		return max(level*255-ink*n, ink*n-level*255)
	}
	nearest := 0
	for level := range n + 1 {
		if distance(level) < distance(nearest) {
			nearest = level
		}
	}
	return nearest
}

// screenedByCells lays copies of the matrix over the points and compares their ranks with the levels.
func screenedByCells(m impl.Matrix, width, height int, levels []int) impl.Picture {
	plate := pictureOf(width, height, make([]int, width*height)...)
	for top := 0; top < height; top += m.Height {
		for left := 0; left < width; left += m.Width {
			for cell, rank := range m.Ranks {
				x, y := left+cell%m.Width, top+cell/m.Width
				if x < width && y < height && rank < levels[y*width+x] {
					plate.Ink[y*width+x] = 1
				}
			}
		}
	}
	return plate
}

// tilesByCropping cuts out the tiles as long as they lie in the picture.
func tilesByCropping(p impl.Picture, width, height int) []int {
	var sums []int
	for y := 0; y+height <= p.Height; y += height {
		for x := 0; x+width <= p.Width; x += width {
			tile, _ := impl.CropPicture(p, x, y, width, height)
			sums = append(sums, impl.SumInk(tile))
		}
	}
	return sums
}

// blurredByCopies cuts the parts out of copies of the plate that lie side by side.
func blurredByCopies(p impl.Picture, width, height int) impl.Picture {
	blurred := pictureOf(p.Width, p.Height)
	for y := range p.Height {
		for x := range p.Width {
			dots := 0
			for down := y; down < y+height; down++ {
				for across := x; across < x+width; across++ {
					dots += p.Ink[down%p.Height*p.Width+across%p.Width]
				}
			}
			blurred.Ink = append(blurred.Ink, shareOfFull(dots, width*height))
		}
	}
	return blurred
}

// shareOfFull is the greatest amount that is not above 255 * dots / points.
func shareOfFull(dots, points int) int {
	amount := 0
	for (amount+1)*points <= 255*dots {
		amount++
	}
	return amount
}

// plateOf has dots where the picture has more than half of the most ink.
func plateOf(p impl.Picture) impl.Picture {
	plate := pictureOf(p.Width, p.Height)
	for _, ink := range p.Ink {
		plate.Ink = append(plate.Ink, ink/128)
	}
	return plate
}
