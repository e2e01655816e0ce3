package tests

import (
	"math"

	"loop.example/g03229/impl"
)

func latticeOf(a, b int) impl.Lattice {
	return impl.Lattice{A: a, B: b}
}

func latticeName(l impl.Lattice) string {
	return "the lattice " + number(l.A) + ", " + number(l.B)
}

// eachLattice has all lattices that there are.
func eachLattice() []impl.Lattice {
	var all []impl.Lattice
	for a := 1; a <= 12; a++ {
		for b := 0; b <= 12; b++ {
			all = append(all, latticeOf(a, b))
		}
	}
	return all
}

// badLattices are not valid, each for one reason, apart from those with both numbers wrong.
func badLattices() []impl.Lattice {
	bad := []impl.Lattice{{}, latticeOf(-3, -4), latticeOf(13, 13), latticeOf(math.MinInt, math.MaxInt), latticeOf(1<<32, 1<<32)}
	for _, n := range []int{math.MinInt, math.MinInt + 1, -1 << 32, -12, -2, -1, 0, 13, 14, 256, 1 << 32, math.MaxInt - 1, math.MaxInt} {
		bad = append(bad, latticeOf(n, 0), latticeOf(n, 5))
		if n != 0 {
			bad = append(bad, latticeOf(1, n), latticeOf(12, n))
		}
	}
	return bad
}

// divisorByTrying is the greatest number that divides both.
func divisorByTrying(l impl.Lattice) int {
	divisor := l.A
	for l.A%divisor != 0 || l.B%divisor != 0 {
		divisor--
	}
	return divisor
}

// shapeOf tells the area, the period and the greatest common divisor by what chapter 6 says of names.
func shapeOf(l impl.Lattice) (area, period, divisor int) {
	area, divisor = l.A*l.A+l.B*l.B, divisorByTrying(l)
	return area, area / divisor, divisor
}

// isInLattice solves the two equations for i and j. It is for coordinates whose products fit into an int.
func isInLattice(l impl.Lattice, x, y int) bool {
	area, _, _ := shapeOf(l)
	return (x*l.A+y*l.B)%area == 0 && (y*l.A-x*l.B)%area == 0
}

// nameBySearch tries all names from 0 on.
func nameBySearch(l impl.Lattice, x, y int) int {
	_, period, divisor := shapeOf(l)
	for v := range divisor {
		for u := range period {
			if isInLattice(l, x-u, y-v) {
				return v*period + u
			}
		}
	}
	return -1
}

// latticePoints goes through the points with i and j from -reach to reach, by the formula of chapter 6.
func latticePoints(l impl.Lattice, reach int, visit func(x, y int)) {
	for i := -reach; i <= reach; i++ {
		for j := -reach; j <= reach; j++ {
			visit(i*l.A-j*l.B, i*l.B+j*l.A)
		}
	}
}

// reachFor is enough of i and j for all points with coordinates from -side to side.
func reachFor(l impl.Lattice, side int) int {
	area, _, _ := shapeOf(l)
	return side*(l.A+l.B)/area + 1
}

// tiledNames lays the names over the points from -side to side, beginning at each point of the lattice. It
// tells the name of each of them, row by row, and whether none is left out and none is met twice.
func tiledNames(l impl.Lattice, side int) (names []int, once bool) {
	_, period, divisor := shapeOf(l)
	width := 2*side + 1
	names = make([]int, width*width)
	met := make([]int, width*width)
	latticePoints(l, reachFor(l, side+period), func(x, y int) {
		for v := range divisor {
			for u := range period {
				column, row := x+u+side, y+v+side
				if min(column, row) >= 0 && max(column, row) < width {
					names[row*width+column] = v*period + u
					met[row*width+column]++
				}
			}
		}
	})
	for _, count := range met {
		if count != 1 {
			return names, false
		}
	}
	return names, true
}

// nearByPoints measures the way to each point of the lattice around the point of a name.
func nearByPoints(l impl.Lattice, name int) int {
	_, period, _ := shapeOf(l)
	u, v, least := name%period, name/period, math.MaxInt
	latticePoints(l, reachFor(l, 2*period), func(x, y int) {
		least = min(least, (u-x)*(u-x)+(v-y)*(v-y))
	})
	return least
}

// ranksByCounting tells for each item how many are before it: those with a smaller key, and equal ones with a smaller index.
func ranksByCounting(keys []int) []int {
	ranks := make([]int, len(keys))
	for i, a := range keys {
		for k, b := range keys {
			if b < a || b == a && k < i {
				ranks[i]++
			}
		}
	}
	return ranks
}

func spotRanksByCounting(l impl.Lattice) []int {
	area, _, _ := shapeOf(l)
	near := make([]int, area)
	for name := range near {
		near[name] = nearByPoints(l, name)
	}
	return ranksByCounting(near)
}

// spotPlateByNames asks each point for its name, given the ranks of the names.
func spotPlateByNames(l impl.Lattice, ranks []int, level, width, height int) impl.Picture {
	plate := pictureOf(width, height, make([]int, width*height)...)
	for i := range plate.Ink {
		if ranks[nameBySearch(l, i%width, i/width)] < level {
			plate.Ink[i] = 1
		}
	}
	return plate
}
