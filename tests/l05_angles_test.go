package tests

import (
	"slices"
	"testing"

	"loop.example/g03229/impl"
)

// The tests of this file are those of promise P5.

// countsOfNames counts the names in the square of the period whose left upper corner is x, y.
func countsOfNames(l impl.Lattice, x, y int) []int {
	counts := make([]int, impl.AreaOf(l))
	period := impl.PeriodOf(l)
	for down := range period {
		for across := range period {
			counts[impl.NameOf(l, x+across, y+down)]++
		}
	}
	return counts
}

func TestEachNameIsMetEquallyOften(t *testing.T) {
	for _, l := range eachLattice() {
		area, period, _ := shapeOf(l)
		want := slices.Repeat([]int{period * period / area}, area)
		for _, corner := range [][2]int{{0, 0}, {1, 0}, {0, 1}, {-7, 5}, {-1000, -333}, {-100000, 99000}, {99000, -100000}} {
			counts := countsOfNames(l, corner[0], corner[1])
			wantInts(t, "the names of "+latticeName(l)+" from "+pointName(corner[0], corner[1]), counts, want...)
		}
	}
}

func TestEachLevelHasTheDotsOfItsNames(t *testing.T) {
	for _, l := range eachLattice() {
		area, period, _ := shapeOf(l)
		if !isSizeOfPicture(period, period) {
			continue
		}
		before, _ := impl.SpotPlate(l, 0, period, period)
		for level := range area + 1 {
			plate, ok := impl.SpotPlate(l, level, period, period)
			what := "the level " + number(level) + " of " + latticeName(l)
			wantBool(t, what, ok, true)
			wantInt(t, "the dots of "+what, impl.SumInk(plate), level*period*period/area)
			wantBool(t, what+" keeps the dots", impl.CoversPicture(plate, before), true)
			before = plate
		}
	}
}

func TestLatticesAreTurnedIntoThemselves(t *testing.T) {
	for _, l := range eachLattice() {
		for y := -20; y <= 20; y++ {
			for x := -20; x <= 20; x++ {
				wantBool(t, pointName(x, y)+" turned in "+latticeName(l), impl.HasPoint(l, -y, x), impl.HasPoint(l, x, y))
			}
		}
	}
}

func TestNamesAreTurnedTogether(t *testing.T) {
	for _, l := range eachLattice() {
		for y := -20; y <= 20; y++ {
			for x := -20; x <= 20; x++ {
				turned := impl.TurnName(l, impl.NameOf(l, x, y))
				wantInt(t, "the name of "+pointName(x, y)+" turned in "+latticeName(l), turned, impl.NameOf(l, -y, x))
			}
		}
	}
}

func TestNamesAreTurnedAround(t *testing.T) {
	for _, l := range eachLattice() {
		var turned []int
		for name := range impl.AreaOf(l) {
			once := impl.TurnName(l, name)
			turned = append(turned, once)
			half := impl.TurnName(l, once)
			whole := impl.TurnName(l, impl.TurnName(l, half))
			wantInt(t, "the name "+number(name)+" turned around in "+latticeName(l), whole, name)
			wantInt(t, "the distance of the turned name in "+latticeName(l), impl.NearOf(l, once), impl.NearOf(l, name))
		}
		wantBool(t, "each name of "+latticeName(l)+" is a turned one", areEachOnce(turned), true)
	}
}

// levelsBetweenDistances has the levels that do not part names that are equally near.
func levelsBetweenDistances(l impl.Lattice) []int {
	var near []int
	for name := range impl.AreaOf(l) {
		near = append(near, impl.NearOf(l, name))
	}
	slices.Sort(near)
	levels := []int{0, len(near)}
	for level := 1; level < len(near); level++ {
		if near[level-1] < near[level] {
			levels = append(levels, level)
		}
	}
	return levels
}

// TestSpotPlatesAreTurnedIntoThemselves turns the points of a plate on the torus, around the point 0, 0.
func TestSpotPlatesAreTurnedIntoThemselves(t *testing.T) {
	for _, l := range eachLattice() {
		period := impl.PeriodOf(l)
		if !isSizeOfPicture(period, period) {
			continue
		}
		for _, level := range levelsBetweenDistances(l) {
			plate, _ := impl.SpotPlate(l, level, period, period)
			turned := pictureOf(period, period, make([]int, period*period)...)
			for i, dot := range plate.Ink {
				x, y := i%period, i/period
				turned.Ink[x*period+(period-y)%period] = dot
			}
			wantPicture(t, "the level "+number(level)+" of "+latticeName(l)+" turned", turned, plate)
		}
	}
}

// TestTurnedLatticesAreMirrored: with A and B exchanged, the points have their coordinates exchanged.
func TestTurnedLatticesAreMirrored(t *testing.T) {
	for _, l := range eachLattice() {
		turned, ok := impl.TurnedLattice(l)
		if !ok {
			continue
		}
		wantInt(t, "the area of the turned one of "+latticeName(l), impl.AreaOf(turned), impl.AreaOf(l))
		wantInt(t, "the period of the turned one of "+latticeName(l), impl.PeriodOf(turned), impl.PeriodOf(l))
		for y := -20; y <= 20; y++ {
			for x := -20; x <= 20; x++ {
				wantBool(t, pointName(y, x)+" in the turned one of "+latticeName(l), impl.HasPoint(turned, y, x), impl.HasPoint(l, x, y))
			}
		}
	}
}
