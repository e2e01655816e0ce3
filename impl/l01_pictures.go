package impl

import "slices"

const MaxSide = 64
const MaxArea = 1024
const Full = 255

type Picture struct {
	Width  int
	Height int
	Ink    []int
}

func IsPicture(p Picture) bool {
	return isSize(p.Width, p.Height) && len(p.Ink) == p.Width*p.Height && allWithin(p.Ink, Full)
}

func IsPlate(p Picture) bool {
	return IsPicture(p) && allWithin(p.Ink, 1)
}

func InkAt(p Picture, x int, y int) int {
	if !IsPicture(p) || !partFits(x, 1, p.Width) || !partFits(y, 1, p.Height) {
		return -1
	}
	return p.Ink[y*p.Width+x]
}

func FlatPicture(width int, height int, ink int) (Picture, bool) {
	if !isSize(width, height) || ink < 0 || ink > Full {
		return Picture{}, false
	}
	flat := blankPicture(width, height)
	for i := range flat.Ink {
		flat.Ink[i] = ink
	}
	return flat, true
}

func RampPicture(width int, height int) (Picture, bool) {
	if !isSize(width, height) {
		return Picture{}, false
	}
	ramp := blankPicture(width, height)
	// With a width of 1 every x is 0, and so is every amount with this divisor.
	steps := max(width-1, 1)
	for i := range ramp.Ink {
		ramp.Ink[i] = i % width * Full / steps
	}
	return ramp, true
}

func SumInk(p Picture) int {
	if !IsPicture(p) {
		return 0
	}
	sum := 0
	for _, ink := range p.Ink {
		sum += ink
	}
	return sum
}

func CountInk(p Picture, ink int) int {
	if !IsPicture(p) {
		return 0
	}
	count := 0
	for _, amount := range p.Ink {
		if amount == ink {
			count++
		}
	}
	return count
}

func MirrorPicture(p Picture) Picture {
	if !IsPicture(p) {
		return Picture{}
	}
	mirrored := copyPicture(p)
	for start := 0; start < len(mirrored.Ink); start += p.Width {
		slices.Reverse(mirrored.Ink[start : start+p.Width])
	}
	return mirrored
}

func TurnPicture(p Picture) Picture {
	if !IsPicture(p) {
		return Picture{}
	}
	turned := blankPicture(p.Height, p.Width)
	for i, ink := range p.Ink {
		x, y := i%p.Width, i/p.Width
		turned.Ink[(p.Width-1-x)*turned.Width+y] = ink
	}
	return turned
}

func NegativePicture(p Picture) Picture {
	if !IsPicture(p) {
		return Picture{}
	}
	most := Full
	if IsPlate(p) {
		most = 1
	}
	negative := blankPicture(p.Width, p.Height)
	for i, ink := range p.Ink {
		negative.Ink[i] = most - ink
	}
	return negative
}

func CropPicture(p Picture, x int, y int, width int, height int) (Picture, bool) {
	if !IsPicture(p) || !partFits(x, width, p.Width) || !partFits(y, height, p.Height) {
		return Picture{}, false
	}
	part := blankPicture(width, height)
	for row := range height {
		start := (y+row)*p.Width + x
		copy(part.Ink[row*width:], p.Ink[start:start+width])
	}
	return part, true
}

func TilePicture(p Picture, width int, height int) (Picture, bool) {
	if !IsPicture(p) || !isSize(width, height) {
		return Picture{}, false
	}
	tiled := blankPicture(width, height)
	for i := range tiled.Ink {
		x, y := i%width%p.Width, i/width%p.Height
		tiled.Ink[i] = p.Ink[y*p.Width+x]
	}
	return tiled, true
}

func SamePicture(p Picture, q Picture) bool {
	return sidesOf(p) == sidesOf(q) && slices.Equal(p.Ink, q.Ink)
}

func CoversPicture(p Picture, q Picture) bool {
	if !arePicturesOfOneSize(p, q) {
		return false
	}
	for i, ink := range q.Ink {
		if ink > p.Ink[i] {
			return false
		}
	}
	return true
}

func AddPictures(p Picture, q Picture) (Picture, bool) {
	if !arePicturesOfOneSize(p, q) {
		return Picture{}, false
	}
	sum := blankPicture(p.Width, p.Height)
	for i, ink := range p.Ink {
		sum.Ink[i] = min(ink+q.Ink[i], Full)
	}
	return sum, true
}

// isSize looks at each side before it multiplies: the product of two sides of any length may not fit into an int.
func isSize(width int, height int) bool {
	return width >= 1 && width <= MaxSide && height >= 1 && height <= MaxSide && width*height <= MaxArea
}

// partFits subtracts where adding length to start may not fit into an int.
func partFits(start int, length int, side int) bool {
	return length >= 1 && start >= 0 && start <= side-length
}

func allWithin(amounts []int, most int) bool {
	for _, amount := range amounts {
		if amount < 0 || amount > most {
			return false
		}
	}
	return true
}

func sidesOf(p Picture) [2]int {
	return [2]int{p.Width, p.Height}
}

func arePicturesOfOneSize(p Picture, q Picture) bool {
	return IsPicture(p) && IsPicture(q) && sidesOf(p) == sidesOf(q)
}

// blankPicture is for sizes that isSize accepts.
func blankPicture(width int, height int) Picture {
	return Picture{Width: width, Height: height, Ink: make([]int, width*height)}
}

func copyPicture(p Picture) Picture {
	double := blankPicture(p.Width, p.Height)
	copy(double.Ink, p.Ink)
	return double
}
