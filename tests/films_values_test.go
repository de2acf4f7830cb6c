package tests

import (
	"math"
	"slices"

	"loop.example/polarisedlight/impl"
)

var (
	// One over it is no exact fraction.
	noInverse = frac(40001, 40000, 1)
	// Its matrix is told, since the products of its layers are from the first one on; from the last one on they would be none.
	toldFromFirst = layers([4]int{1, 0, 50000, 1}, [4]int{1, 0, 50000, 1}, [4]int{50000, 0, 1, 1})
	// The other way round, the first product is none, though the second one, and the product of all, would be told.
	toldFromLast = layers([4]int{50000, 0, 1, 1}, [4]int{1, 0, 50000, 1}, [4]int{1, 0, 50000, 1})
	minusUnitMat = matOver([8]int{-1, 0, 0, 0, 0, 0, -1, 0}, 1)
)

// layers returns the layers of some rows: the parts and the bottom of the index, and the quarters.
func layers(list ...[4]int) []impl.Layer {
	var all []impl.Layer
	for _, n := range list {
		all = append(all, impl.Layer{Index: frac(n[0], n[1], n[2]), Quarter: n[3]})
	}
	return all
}

// pileOf returns layers of some quarters each, one for each index.
func pileOf(quarter int, list ...impl.Frac) []impl.Layer {
	var all []impl.Layer
	for _, n := range list {
		all = append(all, impl.Layer{Index: n, Quarter: quarter})
	}
	return all
}

// repeated returns a list of layers so many times one behind the other.
func repeated(list []impl.Layer, times int) []impl.Layer {
	var all []impl.Layer
	for range times {
		all = append(all, list...)
	}
	return all
}

// joinedLayers returns the layers of some lists one behind the other, with no room behind them.
func joinedLayers(lists ...[]impl.Layer) []impl.Layer {
	return slices.Clip(slices.Concat(lists...))
}

// indexes returns exact fractions that are not 0: real ones and others, with parts of both signs, without a real part, at and near the greatest sizes, and without a told 1 over them.
func indexes() []impl.Frac {
	const m = partMax
	return fracs([][3]int{
		{1, 0, 1}, {2, 0, 1}, {4, 0, 1}, {3, 0, 2}, {1, 0, 3}, {-1, 0, 1}, {-2, 0, 1}, {-5, 0, 3},
		{0, 1, 1}, {0, -1, 1}, {0, 2, 3}, {1, 1, 1}, {1, -1, 1}, {-1, 2, 1}, {-3, -4, 5}, {3, -1, 2}, {2, 3, 4},
		{m, 0, 1}, {1, 0, m}, {-m, 0, 1}, {m / 2, 0, 1}, {50000, 0, 1}, {1, 0, 50001}, {0, m, 1}, {m - 1, 0, m}, {40001, 40000, 1}, {25000, 0, 1}, {19001, 0, 1},
	})
}

// pairsOfIndexes calls check with each two indexes.
func pairsOfIndexes(check func(a, b impl.Frac)) {
	for _, a := range indexes() {
		for _, b := range indexes() {
			check(a, b)
		}
	}
}

// noIndexes returns 0 and what is no exact fraction.
func noIndexes() []impl.Frac {
	return append([]impl.Frac{zero}, noneFracs()...)
}

// longFilms returns films of two layers up to the greatest number.
func longFilms() [][]impl.Layer {
	const m = partMax
	all := layers([4]int{2, 0, 1, 1}, [4]int{1, -1, 1, 0}, [4]int{3, 0, 2, 3}, [4]int{5, 0, 1, 2}, [4]int{1, 0, 2, 1}, [4]int{0, 1, 1, 1}, [4]int{-1, 2, 1, 3}, [4]int{7, 0, 3, 1})
	return [][]impl.Layer{
		layers([4]int{2, 0, 1, 1}, [4]int{3, 0, 1, 1}), layers([4]int{3, 0, 1, 1}, [4]int{2, 0, 1, 1}), layers([4]int{2, 0, 1, 1}, [4]int{3, 0, 1, 3}), layers([4]int{2, 0, 1, 1}, [4]int{2, 0, 1, 1}),
		layers([4]int{2, 0, 1, 1}, [4]int{2, 0, 1, 3}), layers([4]int{1, 0, 1, 2}, [4]int{2, 0, 1, 1}), layers([4]int{2, 0, 1, 1}, [4]int{9, 0, 1, 0}, [4]int{2, 0, 1, 2}),
		layers([4]int{1, 1, 1, 1}, [4]int{1, -1, 1, 1}), layers([4]int{1, -1, 1, 1}, [4]int{1, 1, 1, 3}), layers([4]int{1, 1, 1, 1}, [4]int{2, 0, 1, 1}, [4]int{0, -1, 1, 1}),
		layers([4]int{2, 0, 1, 1}, [4]int{3, 0, 1, 1}, [4]int{5, 0, 1, 1}), layers([4]int{3, 0, 2, 1}, [4]int{-2, 0, 1, 3}, [4]int{1, 2, 3, 1}),
		toldFromFirst, toldFromLast, layers([4]int{m, 0, 1, 1}, [4]int{1, 0, m, 1}, [4]int{1, 0, m, 1}, [4]int{m, 0, 1, 1}), pileOf(1, noInverse, noInverse), pileOf(2, noInverse, noInverse),
		all, all[1:], all[:5], repeated(layers([4]int{2, 0, 1, 1}, [4]int{1, 0, 1, 1}), 4), repeated(layers([4]int{5, 0, 2, 3}, [4]int{3, 0, 2, 1}), 4),
		repeated(layers([4]int{m, 0, 1, 1}, [4]int{1, 0, m, 1}), 4), repeated(layers([4]int{4, 0, 1, 0}), 8), repeated(layers([4]int{4, 0, 1, 2}), 7), repeated(layers([4]int{1, 2, 1, 1}), 8),
	}
}

// films returns films: the nil one and the empty one, each index alone in all quarters, and longer ones.
func films() [][]impl.Layer {
	list := [][]impl.Layer{nil, {}}
	for _, n := range indexes() {
		for quarter := range 4 {
			list = append(list, pileOf(quarter, n))
		}
	}
	return append(list, longFilms()...)
}

// noFilms returns lists of layers one of which, at each place, has no thickness or no index, and lists with too many of them.
func noFilms() [][]impl.Layer {
	fine := layers([4]int{2, 0, 1, 1}, [4]int{1, 1, 1, 0}, [4]int{3, 0, 2, 3})
	var list [][]impl.Layer
	with := func(l impl.Layer) {
		list = append(list, []impl.Layer{l})
		for i := range fine {
			bad := slices.Clone(fine)
			bad[i] = l
			list = append(list, bad)
		}
	}
	for _, quarter := range []int{-1, 4, 5, -2, -3, -4, 7, 8, 1 << 32, 1<<32 + 1, math.MinInt, math.MaxInt} {
		with(impl.Layer{Index: one, Quarter: quarter})
	}
	for _, n := range noIndexes() {
		for quarter := range 4 {
			with(impl.Layer{Index: n, Quarter: quarter})
		}
	}
	with(impl.Layer{})
	for _, count := range []int{9, 10, 16, 256, 1000, 65536} {
		list = append(list, repeated(layers([4]int{1, 0, 1, 0}), count), repeated(layers([4]int{1, 0, 1, 2}), count))
	}
	return append(list, repeated(fine, 3))
}

// wantLayerMat returns the matrix of a layer, if it is told.
func wantLayerMat(l impl.Layer) (impl.Mat, bool) {
	switch l.Quarter {
	case 0:
		return unitMat, true
	case 2:
		return minusUnitMat, true
	}
	above, aboveOk := wantOver(frac(0, 1, 1), l.Index)
	below, belowOk := wantTimes(frac(0, 1, 1), l.Index)
	if !aboveOk || !belowOk {
		return impl.Mat{}, false
	}
	if l.Quarter == 3 {
		above, below = opposite(above), opposite(below)
	}
	return mat(zero, above, below, zero), true
}

// wantFilmMat returns the matrix of a film, if it is told.
func wantFilmMat(list []impl.Layer) (impl.Mat, bool) {
	product := unitMat
	for _, l := range list {
		m, ok := wantLayerMat(l)
		if !ok {
			return impl.Mat{}, false
		}
		if product, ok = wantMatTimes(product, m); !ok {
			return impl.Mat{}, false
		}
	}
	return product, true
}

// wantSides returns a times B, as X, and C, as Y, of a film between two indexes, if they are told.
func wantSides(list []impl.Layer, a, b impl.Frac) (impl.Jones, bool) {
	m, ok := wantFilmMat(list)
	if !ok {
		return impl.Jones{}, false
	}
	v, ok := wantMatApply(m, jones(one, b))
	if !ok {
		return impl.Jones{}, false
	}
	left, ok := wantTimes(a, v.X)
	return wantBoth(left, ok, v.Y, true)
}

// wantReflected is told for a film and indexes that are valid, as all below are.
func wantReflected(list []impl.Layer, a, b impl.Frac) (impl.Frac, bool) {
	sides, ok := wantSides(list, a, b)
	if !ok {
		return impl.Frac{}, false
	}
	top, topOk := wantLess(sides.X, sides.Y)
	bottom, bottomOk := wantAdd(sides.X, sides.Y)
	if !topOk || !bottomOk {
		return impl.Frac{}, false
	}
	return wantOver(top, bottom)
}

func wantPassing(list []impl.Layer, a, b impl.Frac) (impl.Frac, bool) {
	sides, ok := wantSides(list, a, b)
	if !ok {
		return impl.Frac{}, false
	}
	top, topOk := wantTimes(frac(2, 0, 1), a)
	bottom, bottomOk := wantAdd(sides.X, sides.Y)
	if !topOk || !bottomOk {
		return impl.Frac{}, false
	}
	return wantOver(top, bottom)
}

// realOf returns the real part of a valid exact fraction.
func realOf(a impl.Frac) impl.Frac {
	part, _ := numbersOver(a.Re, 0, a.Den).frac()
	return part
}

// wantPowers returns the power that is reflected, as X, and the one that passes, as Y.
func wantPowers(list []impl.Layer, a, b impl.Frac) (impl.Jones, bool) {
	reflected, reflectedOk := wantReflected(list, a, b)
	passing, passingOk := wantPassing(list, a, b)
	if !reflectedOk || !passingOk {
		return impl.Jones{}, false
	}
	first, firstOk := wantPower(reflected)
	second, secondOk := wantPower(passing)
	if !firstOk || !secondOk {
		return impl.Jones{}, false
	}
	product, ok := wantTimes(second, realOf(b))
	if !ok {
		return impl.Jones{}, false
	}
	share, ok := wantOver(product, realOf(a))
	return wantBoth(first, true, share, ok)
}

// exactSides returns a times B, and C, of a film between two indexes without any bound on fractions, from the last layer to the first.
func exactSides(list []impl.Layer, a, b impl.Frac) (left, right numbers) {
	first, second := numbersOf(one), numbersOf(b)
	i, minus := numbersOf(frac(0, 1, 1)), numbersOf(frac(-1, 0, 1))
	for k := len(list) - 1; k >= 0; k-- {
		n := numbersOf(list[k].Index)
		if list[k].Quarter == 1 || list[k].Quarter == 3 {
			first, second = i.times(second).times(n.inverse()), i.times(n).times(first)
		}
		if list[k].Quarter == 2 || list[k].Quarter == 3 {
			first, second = first.times(minus), second.times(minus)
		}
	}
	return numbersOf(a).times(first), second
}

// exactReflected is told for a bottom that is not 0, as exactPassing and exactPowers are.
func exactReflected(list []impl.Layer, a, b impl.Frac) numbers {
	left, right := exactSides(list, a, b)
	return left.minus(right).times(left.plus(right).inverse())
}

func exactPassing(list []impl.Layer, a, b impl.Frac) numbers {
	left, right := exactSides(list, a, b)
	return numbersOf(a).plus(numbersOf(a)).times(left.plus(right).inverse())
}

// exactPowers is told for an index ahead with a real part.
func exactPowers(list []impl.Layer, a, b impl.Frac) (first, second numbers) {
	share := numbersOf(realOf(b)).times(numbersOf(realOf(a)).inverse())
	return exactReflected(list, a, b).power(), exactPassing(list, a, b).power().times(share)
}

// wideProduct returns the product of two wide numbers part by part.
func wideProduct(a, b complex128) complex128 {
	x, y, v, w := real(a), imag(a), real(b), imag(b)
	return complex(rounded(x, v)-rounded(y, w), rounded(x, w)+rounded(y, v))
}

// singleProduct returns the wide product of two single numbers, converted.
func singleProduct(a, b complex64) complex64 {
	return complex64(wideProduct(complex128(a), complex128(b)))
}

// wideOf returns the wide number of a valid exact fraction.
func wideOf(a impl.Frac) complex128 {
	den := float64(a.Den)
	return complex(float64(a.Re)/den, float64(a.Im)/den)
}

// wantWide returns the reflected part in wide numbers.
func wantWide(list []impl.Layer, a, b impl.Frac) complex128 {
	first, second := complex128(1), wideOf(b)
	for k := len(list) - 1; k >= 0; k-- {
		n := wideOf(list[k].Index)
		switch list[k].Quarter {
		case 1:
			first, second = wideProduct(1i, second)/n, wideProduct(wideProduct(1i, n), first)
		case 2:
			first, second = complex(-real(first), -imag(first)), complex(-real(second), -imag(second))
		case 3:
			first, second = wideProduct(1i, second)/n, wideProduct(wideProduct(1i, n), first)
			first, second = complex(-real(first), -imag(first)), complex(-real(second), -imag(second))
		}
	}
	left := wideProduct(wideOf(a), first)
	top := complex(real(left)-real(second), imag(left)-imag(second))
	return top / complex(real(left)+real(second), imag(left)+imag(second))
}

// wantSingle returns the reflected part in single numbers.
func wantSingle(list []impl.Layer, a, b impl.Frac) complex64 {
	first, second := complex64(1), complex64(wideOf(b))
	for k := len(list) - 1; k >= 0; k-- {
		n := complex64(wideOf(list[k].Index))
		switch list[k].Quarter {
		case 1:
			first, second = singleProduct(1i, second)/n, singleProduct(singleProduct(1i, n), first)
		case 2:
			first, second = complex(-real(first), -imag(first)), complex(-real(second), -imag(second))
		case 3:
			first, second = singleProduct(1i, second)/n, singleProduct(singleProduct(1i, n), first)
			first, second = complex(-real(first), -imag(first)), complex(-real(second), -imag(second))
		}
	}
	left := singleProduct(complex64(wideOf(a)), first)
	top := complex(real(left)-real(second), imag(left)-imag(second))
	return top / complex(real(left)+real(second), imag(left)+imag(second))
}
