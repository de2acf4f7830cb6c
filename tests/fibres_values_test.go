package tests

import (
	"math"
	"slices"

	"loop.example/polarisedlight/impl"
)

var (
	// Their matrices are none plate by plate, though those of the whole fibres would be told.
	fineTwice   = sections([4]int{100, 99, 2, 2})
	fineFour    = sections([4]int{100, 99, 1, 4})
	fineAndBack = sections([4]int{100, 99, 1, 1}, [4]int{100, 99, 3, 1})
	// The product of both plates of its last section is told, but that of the first one of these and what is ahead is none.
	fineAhead = sections([4]int{100, 99, 1, 1}, [4]int{2, 1, 2, 2})
	// Its matrix is told plate by plate, though the product of both plates of its last section is none.
	toldByPlates = sections([4]int{4, 1, 2, 1}, [4]int{15, 8, 1, 2})
)

// plateOf is one plate of a fibre.
type plateOf struct {
	p, q, phase int
}

// sections returns the sections of some rows: P, Q, the phase and the times.
func sections(list ...[4]int) []impl.Section {
	var all []impl.Section
	for _, n := range list {
		all = append(all, impl.Section{P: n[0], Q: n[1], Phase: n[2], Times: n[3]})
	}
	return all
}

// manySections returns a section so many times one behind the other.
func manySections(s [4]int, times int) []impl.Section {
	return slices.Repeat(sections(s), times)
}

// joinedSections returns the sections of some lists one behind the other, with no room behind them.
func joinedSections(lists ...[]impl.Section) []impl.Section {
	return slices.Clip(slices.Concat(lists...))
}

// longFibres returns fibres of two sections up to the greatest number, and those whose matrices are none.
func longFibres() [][]impl.Section {
	all := sections([4]int{2, 1, 1, 1}, [4]int{1, 0, 3, 7}, [4]int{1, 1, 0, 50}, [4]int{0, 1, 2, 1}, [4]int{2, 1, 3, 5}, [4]int{1, -1, 1, 0}, [4]int{1, 0, 1, 2}, [4]int{1, 2, 2, 49})
	return [][]impl.Section{
		all, all[1:], all[2:7], all[:3],
		sections([4]int{1, 0, 1, 1}, [4]int{2, 1, 1, 1}), sections([4]int{2, 1, 1, 1}, [4]int{1, 0, 1, 1}), sections([4]int{2, 1, 1, 3}, [4]int{2, 1, 1, 1}), sections([4]int{2, 1, 1, 50}, [4]int{2, 1, 3, 50}),
		sections([4]int{1, 0, 2, 1}, [4]int{2, 1, 2, 1}), sections([4]int{1, 0, 2, 1}, [4]int{2, 1, 2, 1}, [4]int{1, 1, 2, 1}), sections([4]int{3, 1, 2, 1}, [4]int{1, 0, 1, 2}, [4]int{3, 1, 2, 1}),
		sections([4]int{1, 0, 1, 1}, [4]int{1, 1, 1, 1}), sections([4]int{1, 0, 1, 1}, [4]int{0, 1, 3, 1}), sections([4]int{1, 0, 1, 1}, [4]int{2, 0, 1, 3}), sections([4]int{-1, 2, 1, 1}, [4]int{1, -2, 3, 1}),
		sections([4]int{1, 0, 1, 0}, [4]int{2, 1, 1, 0}), sections([4]int{2, 1, 1, 1}, [4]int{100, 99, 1, 0}, [4]int{2, 1, 3, 1}), sections([4]int{2, 1, 1, 2}, [4]int{5, 7, 0, 50}, [4]int{2, 1, 1, 2}),
		fineTwice, fineFour, fineAndBack, fineAhead, toldByPlates, sections([4]int{15, 8, 1, 2}), sections([4]int{2, 1, 1, 1}, [4]int{3, 1, 1, 1}, [4]int{5, 2, 1, 1}, [4]int{7, 1, 1, 1}),
		manySections([4]int{1, 0, 1, 50}, 8), manySections([4]int{2, 1, 1, 1}, 8), manySections([4]int{2, 1, 3, 7}, 7), manySections([4]int{5, 7, 2, 1}, 8), manySections([4]int{0, -3, 0, 50}, 8),
		manySections([4]int{100, 99, 3, 0}, 8), slices.Repeat(sections([4]int{1, 0, 2, 1}, [4]int{2, 1, 2, 1}), 4), slices.Repeat(sections([4]int{1, 0, 1, 1}, [4]int{1, 1, 3, 1}), 4),
	}
}

// fibres returns fibres: the nil one and the empty one, one section of many directions with all phases and times up to the greatest, and longer ones.
func fibres() [][]impl.Section {
	list := [][]impl.Section{nil, {}}
	for _, d := range [][2]int{{1, 0}, {0, -1}, {1, 1}, {2, 1}, {-3, 1}, {5, 7}, {-100, 99}, {100, 100}} {
		for phase := range 4 {
			for _, times := range []int{0, 1, 2, 3, 4, 5, 50} {
				list = append(list, sections([4]int{d[0], d[1], phase, times}))
			}
		}
	}
	return append(list, longFibres()...)
}

// neighbours returns fibres of up to four sections of a few kinds, each such fibre, and of up to eight, some of them.
func neighbours() [][]impl.Section {
	kinds := sections([4]int{1, 0, 1, 1}, [4]int{1, 0, 1, 3}, [4]int{1, 0, 2, 1}, [4]int{2, 0, 1, 2}, [4]int{2, 1, 3, 6}, [4]int{2, 1, 1, 0}, [4]int{2, 1, 0, 5})
	list := [][]impl.Section{nil}
	for begun := 0; len(list[begun]) < 4; begun++ {
		for _, s := range kinds {
			list = append(list, joinedSections(list[begun], []impl.Section{s}))
		}
	}
	for n := range 3000 {
		var long []impl.Section
		for digits := n*7919 + 1; len(long) < 5+n%4; digits = digits*31/7 + 3 {
			// The first kinds alone make most of them go away.
			long = append(long, kinds[digits%(2+n%6)])
		}
		list = append(list, long)
	}
	return list
}

// noSections returns what is no section, though some would be one if whole waves, or what an int does not hold, were left out.
func noSections() []impl.Section {
	list := []impl.Section{{}, {Times: 1}}
	for _, times := range []int{-1, 51, -2, -4, -50, 52, 100, 1 << 32, 1<<32 + 1, math.MinInt, math.MaxInt} {
		list = append(list, sections([4]int{1, 0, 0, times}, [4]int{2, 1, 1, times}, [4]int{1, 1, 2, times})...)
	}
	for _, phase := range noPhases() {
		list = append(list, sections([4]int{1, 0, phase, 0}, [4]int{2, 1, phase, 1}, [4]int{1, 1, phase, 50})...)
	}
	for _, d := range noDirections() {
		list = append(list, sections([4]int{d[0], d[1], 0, 0}, [4]int{d[0], d[1], 1, 1}, [4]int{d[0], d[1], 3, 0})...)
	}
	return list
}

// noFibres returns lists of sections one of which, at each place, is none, and lists with too many of them.
func noFibres() [][]impl.Section {
	fine := sections([4]int{2, 1, 1, 1}, [4]int{1, 0, 0, 0}, [4]int{1, 1, 2, 50})
	var list [][]impl.Section
	for _, s := range noSections() {
		list = append(list, []impl.Section{s})
		for i := range fine {
			bad := slices.Clone(fine)
			bad[i] = s
			list = append(list, bad)
		}
	}
	for _, count := range []int{9, 10, 16, 256, 1000, 65536} {
		list = append(list, manySections([4]int{1, 0, 1, 0}, count), manySections([4]int{1, 0, 0, 1}, count), manySections([4]int{1, 0, 1, 4}, count))
	}
	return append(list, slices.Repeat(fine, 3))
}

// wantSection reports whether a section is one.
func wantSection(s impl.Section) bool {
	return isDirection(s.P, s.Q) && 0 <= s.Phase && s.Phase <= 3 && 0 <= s.Times && s.Times <= 50
}

// platesOf returns the plates of a fibre one by one.
func platesOf(list []impl.Section) []plateOf {
	var all []plateOf
	for _, s := range list {
		all = append(all, slices.Repeat([]plateOf{{s.P, s.Q, s.Phase}}, s.Times)...)
	}
	return all
}

// wantFibreMat returns the matrix of a fibre, if it is told plate by plate.
func wantFibreMat(list []impl.Section) (impl.Mat, bool) {
	product := unitMat
	for _, s := range platesOf(list) {
		m, ok := wantPlate(s.p, s.q, s.phase)
		if !ok {
			return impl.Mat{}, false
		}
		if product, ok = wantMatTimes(m, product); !ok {
			return impl.Mat{}, false
		}
	}
	return product, true
}

// exactFibreMat returns the matrix of a fibre without any bound on fractions on the way.
func exactFibreMat(list []impl.Section) (impl.Mat, bool) {
	var product [4]numbers
	for i, a := range unitMat.M {
		product[i] = numbersOf(a)
	}
	for _, s := range platesOf(list) {
		m, _ := wantPlate(s.p, s.q, s.phase)
		ahead := product
		for i := range product {
			left := numbersOf(m.M[i/2*2]).times(ahead[i%2])
			product[i] = left.plus(numbersOf(m.M[i/2*2+1]).times(ahead[2+i%2]))
		}
	}
	return wantEach(func(row, column int) (impl.Frac, bool) { return product[2*row+column].frac() })
}

// wantFibreRun returns what a fibre makes of a valid vector, if its matrix is told.
func wantFibreRun(m impl.Mat, ok bool, v impl.Jones) (impl.Jones, bool) {
	if !ok {
		return impl.Jones{}, false
	}
	return wantMatApply(m, v)
}

// wantFibreOrder returns the order of a fibre with a matrix.
func wantFibreOrder(m impl.Mat) int {
	product, ok := m, true
	for n := 1; n <= 24 && ok; n++ {
		if wantMatAlike(product, unitMat) {
			return n
		}
		product, ok = wantMatTimes(m, product)
	}
	return 0
}

// wantBeat returns the beat of a section by its phase.
func wantBeat(s impl.Section) int {
	return [4]int{1, 4, 2, 4}[s.Phase]
}

func wantFibreBack(list []impl.Section) []impl.Section {
	var back []impl.Section
	for _, s := range list {
		s.Phase = [4]int{0, 3, 2, 1}[s.Phase]
		back = append([]impl.Section{s}, back...)
	}
	return back
}

// idlePlates returns the place and the number of the first plates, one beside the other and all the same, that together change nothing.
func idlePlates(plates []plateOf) (from, count int) {
	for i, s := range plates {
		beat := wantBeat(impl.Section{Phase: s.phase})
		if i+beat <= len(plates) && slices.Equal(plates[i:i+beat], slices.Repeat([]plateOf{s}, beat)) {
			return i, beat
		}
	}
	return 0, 0
}

// wantShort takes plates that together change nothing out of a fibre, wherever they stand, until there are none, and makes sections of what is left.
func wantShort(list []impl.Section) []impl.Section {
	plates := platesOf(list)
	for from, count := idlePlates(plates); count > 0; from, count = idlePlates(plates) {
		plates = slices.Delete(plates, from, from+count)
	}
	var short []impl.Section
	for i, s := range plates {
		if i > 0 && plates[i-1] == s {
			short[len(short)-1].Times++
			continue
		}
		short = append(short, impl.Section{P: s.p, Q: s.q, Phase: s.phase, Times: 1})
	}
	return short
}

// wantStays reports whether a fibre makes an alike vector of a valid one that is not dark, if its matrix is told.
func wantStays(m impl.Mat, ok bool, v impl.Jones) bool {
	out, ok := wantFibreRun(m, ok, v)
	return ok && v != dark && wantJonesAlike(out, v)
}
