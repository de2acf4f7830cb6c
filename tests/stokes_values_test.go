package tests

import (
	"math/big"

	"loop.example/polarisedlight/impl"
)

var (
	noLight = stokes(zero, zero, zero, zero)
	// Its squares are told in the end, though the sum of the first two is not; in another order they are told all the way.
	brokenSum = stokes(frac(2, 0, 1), frac(1, 0, 10007), frac(3, 0, 5), frac(4, 0, 5))
	// It is pure, but its first two numbers have no sum that is an exact fraction.
	steepPure = stokes(frac(44105, 0, 44104), frac(43512, 0, 43513), frac(295, 0, 43513), frac(297, 0, 44104))
)

func stokes(a, b, c, d impl.Frac) impl.Stokes {
	return impl.Stokes{S: [4]impl.Frac{a, b, c, d}}
}

// stokesOver returns four whole numbers over a bottom, each one in lowest terms.
func stokesOver(a, b, c, d, den int) impl.Stokes {
	var s impl.Stokes
	for i, n := range []int{a, b, c, d} {
		s.S[i], _ = numbersOver(n, 0, den).frac()
	}
	return s
}

// validStokes returns four numbers that are no light, light, pure or negative, or have parts at and near the greatest sizes.
func validStokes() []impl.Stokes {
	const m = partMax
	list := []impl.Stokes{noLight, brokenSum, steepPure}
	for _, n := range [][5]int{
		{1, 0, 0, 0, 1}, {0, 1, 0, 0, 1}, {0, 0, 1, 0, 1}, {0, 0, 0, 1, 1}, {0, 2, 0, 0, 1}, {0, 1, -2, 0, 3},
		{1, 1, 0, 0, 1}, {1, -1, 0, 0, 1}, {1, 0, 1, 0, 1}, {1, 0, 0, -1, 1}, {5, -5, 0, 0, 2}, {2, 0, 0, 2, 1},
		{2, 1, 0, 0, 1}, {4, 2, 0, 0, 1}, {-2, -1, 0, 0, 1}, {1, 1, 1, 0, 1}, {2, 1, 1, 1, 1}, {1, 1, 1, 1, 2},
		{3, 1, 2, 2, 1}, {3, 1, 2, -2, 1}, {3, 1, 2, 2, 7}, {-3, -1, -2, -2, 1}, {3, -2, 2, -1, 1}, {7, 2, 3, 6, 1}, {7, 2, 3, 6, 30},
		{5, 0, 3, 4, 5}, {5, -4, 0, 3, 1}, {15, 5, -10, 10, 15}, {9, 1, -4, 8, 6}, {9, 1, -4, 7, 6}, {9, 1, -4, 9, 6},
		{44721, 44721, 0, 0, 1}, {44721, -44721, 0, 0, 1}, {44722, -44722, 0, 0, 1}, {44721, 0, 0, 44720, 1}, {44720, 0, 0, 44721, 1},
		{1, -1, 0, 0, 44721}, {1, -1, 0, 0, 44722}, {44721, 0, 31622, 31622, 44720}, {50000, 0, 0, 0, 1}, {50000, 50000, 0, 0, 1},
		{m, 0, 0, 0, 1}, {m, -m, 0, 0, 1}, {-m, m, 0, 0, 1}, {m, m, m, m, 1}, {0, 0, 0, -m, 1}, {1, 0, 0, 0, m}, {1, 1, 1, -1, m}, {m, m - 1, 0, 1, m - 1},
		{79601, 399, 79600, 0, 79601}, {79601, 0, -79600, 399, 79601}, {40000, 24000, 0, -32000, 1}, {1, 0, 0, 0, 50000},
	} {
		s := stokesOver(n[0], n[1], n[2], n[3], n[4])
		list = append(list, s, oppositeFirst(s))
	}
	return append(list,
		stokes(frac(2, 0, 1), frac(3, 0, 5), frac(4, 0, 5), frac(1, 0, 10007)),
		stokes(frac(m, 0, 1), frac(1, 0, m), zero, frac(-1, 0, m)),
		stokes(one, zero, frac(1, 0, 50000), frac(1, 0, 50001)),
		stokes(frac(1, 0, 2), frac(1, 0, 3), frac(-1, 0, 5), frac(1, 0, 7)),
	)
}

// oppositeFirst returns four numbers with the first one opposite.
func oppositeFirst(s impl.Stokes) impl.Stokes {
	s.S[0] = opposite(s.S[0])
	return s
}

// notRealFracs returns exact fractions that are not real.
func notRealFracs() []impl.Frac {
	return fracs([][3]int{{0, 1, 1}, {0, -1, 1}, {1, 1, 1}, {3, 4, 5}, {1, -1, 2}, {0, partMax, 1}, {0, 1, partMax}})
}

// noneStokes returns what is no four numbers: one of them, at each place, is none or not real.
func noneStokes() []impl.Stokes {
	list := []impl.Stokes{{}}
	for _, a := range append(noneFracs(), notRealFracs()...) {
		for _, s := range []impl.Stokes{noLight, stokesOver(1, -1, 0, 0, 1), stokesOver(3, 1, 2, 2, 1)} {
			for i := range s.S {
				with := s
				with.S[i] = a
				list = append(list, with)
			}
		}
	}
	return list
}

// eachStokesPair calls check with all pairs of valid four numbers.
func eachStokesPair(check func(a, b impl.Stokes)) {
	for _, a := range validStokes() {
		for _, b := range validStokes() {
			check(a, b)
		}
	}
}

// eachNoneStokesPair calls check with pairs of four numbers one of which are none, or both are.
func eachNoneStokesPair(check func(a, b impl.Stokes)) {
	for _, a := range noneStokes() {
		for _, b := range []impl.Stokes{noLight, stokesOver(1, -1, 0, 0, 1), stokesOver(3, 1, 2, 2, 1), a} {
			check(a, b)
			check(b, a)
		}
	}
}

// small reports whether all parts and bottoms of four numbers are less than 10000 in size.
func small(s impl.Stokes) bool {
	for _, a := range s.S {
		if max(a.Re, -a.Re, a.Den) >= 10000 {
			return false
		}
	}
	return true
}

// squaresTold reports whether the square of the first of four numbers is told, and the squares of polarisation are.
func squaresTold(s impl.Stokes) bool {
	_, ok := impl.FracPower(s.S[0])
	_, squaresOk := impl.StokesSquares(s)
	return ok && squaresOk
}

// mirroredLast returns four numbers with the last one opposite.
func mirroredLast(s impl.Stokes) impl.Stokes {
	s.S[3] = opposite(s.S[3])
	return s
}

// wantFour returns the four numbers that a function makes at each place, if all are told.
func wantFour(at func(i int) (impl.Frac, bool)) (impl.Stokes, bool) {
	var s impl.Stokes
	for i := range s.S {
		a, ok := at(i)
		if !ok {
			return impl.Stokes{}, false
		}
		s.S[i] = a
	}
	return s, true
}

func wantStokesOf(v impl.Jones) (impl.Stokes, bool) {
	powerX, xOk := wantPower(v.X)
	powerY, yOk := wantPower(v.Y)
	if _, ok := wantTimes(v.X, mirrored(v.Y)); !xOk || !yOk || !ok {
		return impl.Stokes{}, false
	}
	product := numbersOf(v.X).times(numbersOf(mirrored(v.Y)))
	return wantFour(func(i int) (impl.Frac, bool) {
		switch i {
		case 0:
			return wantAdd(powerX, powerY)
		case 1:
			return wantLess(powerX, powerY)
		case 2:
			return numbers{ratSum(product.x, product.x), new(big.Rat)}.frac()
		default:
			return numbers{ratSum(product.y, product.y), new(big.Rat)}.frac()
		}
	})
}

func wantStokesAdd(a, b impl.Stokes) (impl.Stokes, bool) {
	return wantFour(func(i int) (impl.Frac, bool) { return wantAdd(a.S[i], b.S[i]) })
}

func wantStokesTimes(a impl.Stokes, c impl.Frac) (impl.Stokes, bool) {
	return wantFour(func(i int) (impl.Frac, bool) { return wantTimes(a.S[i], c) })
}

func wantStokesSquares(s impl.Stokes) (impl.Frac, bool) {
	var squares [3]impl.Frac
	for i := range squares {
		square, ok := wantPower(s.S[i+1])
		if !ok {
			return impl.Frac{}, false
		}
		squares[i] = square
	}
	sum, ok := wantAdd(squares[0], squares[1])
	if !ok {
		return impl.Frac{}, false
	}
	return wantAdd(sum, squares[2])
}

// wantLightAndPure reports whether four numbers are light, and whether they are pure.
func wantLightAndPure(s impl.Stokes) (light, pure bool) {
	first, firstOk := wantPower(s.S[0])
	squares, squaresOk := wantStokesSquares(s)
	if !firstOk || !squaresOk || s.S[0].Re < 0 {
		return false, false
	}
	sign := numbersOf(first).x.Cmp(numbersOf(squares).x)
	return sign >= 0, sign == 0
}

func wantStokesVector(s impl.Stokes) (impl.Jones, bool) {
	if _, pure := wantLightAndPure(s); !pure || s == noLight {
		return impl.Jones{}, false
	}
	x, xOk := wantAdd(s.S[0], s.S[1])
	if xOk && x == zero {
		y, yOk := wantAdd(s.S[0], s.S[0])
		return wantBoth(x, xOk, y, yOk)
	}
	y, yOk := numbers{numbersOf(s.S[2]).x, new(big.Rat).Neg(numbersOf(s.S[3]).x)}.frac()
	return wantBoth(x, xOk, y, yOk)
}

func wantStokesAlike(a, b impl.Stokes) bool {
	if numbersOf(a.S[0]).x.Sign() != numbersOf(b.S[0]).x.Sign() {
		return false
	}
	for i := range a.S {
		for k := range b.S {
			left, leftOk := wantTimes(a.S[i], b.S[k])
			right, rightOk := wantTimes(a.S[k], b.S[i])
			if i != k && (!leftOk || !rightOk || left != right) {
				return false
			}
		}
	}
	return true
}
