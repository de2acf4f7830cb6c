package tests

import (
	"math"

	"loop.example/polarisedlight/impl"
)

var (
	noMat   = matOver([8]int{}, 1)
	unitMat = matOver([8]int{1, 0, 0, 0, 0, 0, 1, 0}, 1)
	// The powers of its fractions are none, though the sums of two of them would be 1.
	finelyTurned = matOver([8]int{399, 0, -79600, 0, 79600, 0, 399, 0}, 79601)
	// Its product with its adjoint is told and changes nothing; that of its adjoint with itself is not told.
	oneSided = impl.Mat{M: [4]impl.Frac{frac(1197, 238800, 398005), frac(1196, 178800, 223505), frac(1596, 318400, 398005), frac(-897, -134100, 223505)}}
	// All products of two of its fractions are none, though those of the determinant are the same.
	greatFlat = matOver([8]int{50000, 0, 50000, 0, 50000, 0, 50000, 0}, 1)
)

func mat(a, b, c, d impl.Frac) impl.Mat {
	return impl.Mat{M: [4]impl.Frac{a, b, c, d}}
}

// matOver returns the matrix of four real and imaginary parts, row by row, over a bottom, each fraction in lowest terms.
func matOver(n [8]int, den int) impl.Mat {
	var m impl.Mat
	for i := range m.M {
		m.M[i], _ = numbersOver(n[2*i], n[2*i+1], den).frac()
	}
	return m
}

// elementMats returns rotators, plates and filters as the document tells them, reckoned without the program.
func elementMats() []impl.Mat {
	var list []impl.Mat
	for _, d := range [][2]int{{1, 0}, {0, -1}, {1, 1}, {2, -1}, {-3, 1}, {5, 7}, {-100, 99}} {
		r, _ := wantRotator(d[0], d[1])
		f, _ := wantFilter(d[0], d[1])
		list = append(list, r, f)
		for k := range 4 {
			p, _ := wantPlate(d[0], d[1], k)
			list = append(list, p)
		}
	}
	return list
}

// validMats returns matrices that are all 0, that change nothing, of elements, with imaginary parts, with one fraction alone, or with parts at and near the greatest sizes of sums and products.
func validMats() []impl.Mat {
	const m = partMax
	list := []impl.Mat{
		noMat, unitMat, finelyTurned, oneSided, wantAdjoint(oneSided), greatFlat,
		mat(frac(m, 0, 1), frac(0, m, 1), frac(-m, m, 1), frac(m, m, 1)),
		mat(frac(1, 0, m), frac(0, 1, m), frac(1, -1, m), frac(-1, 0, m)),
		mat(frac(m, 0, m-1), frac(m-1, 0, m), frac(0, 1, m), frac(m, m, m-1)),
		mat(frac(3, 4, 5), frac(1, 0, 3), frac(-1, 2, 7), frac(0, -5, 2)),
		mat(frac(1, 1, 2), frac(1, -1, 2), frac(1, -1, 2), frac(1, 1, 2)),
		mat(frac(1200039999, 1599920000, 1999960001), zero, zero, one),
		mat(frac(50000, 0, 1), frac(50000, 0, 1), zero, zero),
		mat(frac(50000, 0, 1), zero, frac(-50000, 0, 1), zero),
		mat(frac(1, 0, 50000), frac(1, 0, 50001), frac(1, 0, 40000), frac(0, 1, 50000)),
	}
	for _, n := range [][8]int{
		{1, 0, 0, 0, 0, 0, 0, 0}, {0, 0, 0, 2, 0, 0, 0, 0}, {0, 0, 0, 0, -3, 0, 0, 0}, {0, 0, 0, 0, 0, 0, 1, 1},
		{2, 0, 0, 0, 0, 0, 2, 0}, {-1, 0, 0, 0, 0, 0, -1, 0}, {0, 1, 0, 0, 0, 0, 0, 1}, {0, 0, 1, 0, 1, 0, 0, 0}, {0, 0, 0, -1, 0, 1, 0, 0},
		{1, 0, 0, 1, 1, 0, 0, 1}, {1, 0, 0, 1, 0, -1, 1, 0}, {1, 2, 3, -4, -5, 6, 7, 8}, {2, 4, 6, -8, -10, 12, 14, 16}, {1, -2, 3, 4, -5, -6, 7, -8},
		{1, 0, 2, 0, 3, 0, 4, 0}, {1, 0, 3, 0, 2, 0, 4, 0}, {1, 0, 1, 0, 1, 0, 1, 0}, {44721, 0, 0, 44721, 1, 0, 1, 0}, {0, 0, 1, 0, 0, 0, 1, 0},
	} {
		list = append(list, matOver(n, 1), matOver(n, 3))
	}
	return append(list, elementMats()...)
}

// noneMats returns what is no matrix: one of the fractions, at each place, is none, or all are.
func noneMats() []impl.Mat {
	list := []impl.Mat{{}}
	for _, a := range noneFracs() {
		for _, m := range []impl.Mat{noMat, unitMat, matOver([8]int{1, 2, 3, -4, -5, 6, 7, 8}, 1)} {
			for i := range m.M {
				with := m
				with.M[i] = a
				list = append(list, with)
			}
		}
		list = append(list, mat(a, a, a, a))
	}
	return list
}

// eachMatPair calls check with all pairs of valid matrices.
func eachMatPair(check func(a, b impl.Mat)) {
	for _, a := range validMats() {
		for _, b := range validMats() {
			check(a, b)
		}
	}
}

// eachNoneMatPair calls check with pairs of matrices one of which is none, or both are.
func eachNoneMatPair(check func(a, b impl.Mat)) {
	for _, a := range noneMats() {
		for _, b := range []impl.Mat{noMat, unitMat, matOver([8]int{1, 2, 3, -4, -5, 6, 7, 8}, 1), a} {
			check(a, b)
			check(b, a)
		}
	}
}

// smallMat reports whether all parts and bottoms of a matrix are less than 10000 in size.
func smallMat(m impl.Mat) bool {
	for _, a := range m.M {
		if max(a.Re, -a.Re, a.Im, -a.Im, a.Den) >= 10000 {
			return false
		}
	}
	return true
}

// directions returns pairs of numbers of both signs, 0 and 0 among them, up to the greatest sizes and beyond.
func directions() [][2]int {
	sizes := []int{-101, -100, -99, -64, -7, -3, -2, -1, 0, 1, 2, 3, 5, 12, 50, 70, 99, 100, 101}
	var list [][2]int
	for _, p := range sizes {
		for _, q := range sizes {
			list = append(list, [2]int{p, q})
		}
	}
	return list
}

// noDirections returns what is no direction, with numbers the squares of which an int does not hold.
func noDirections() [][2]int {
	const least, most, wraps = math.MinInt, math.MaxInt, 1 << 32
	return [][2]int{
		{0, 0}, {101, 0}, {-101, 0}, {0, 101}, {0, -101}, {101, 101}, {-101, -101}, {101, 1}, {1, -101}, {100, 101}, {-101, 100},
		{1000, 1}, {wraps, 0}, {wraps, 1}, {1, wraps}, {-wraps, 3}, {3, -wraps}, {wraps, wraps},
		{least, 0}, {0, least}, {least, least}, {least, 1}, {1, least}, {most, 0}, {0, most}, {most, most}, {most, 1}, {1, most}, {least, most},
	}
}

// noPhases returns what is no phase, though without whole waves each would be one.
func noPhases() []int {
	return []int{-1, 4, 5, -2, -3, -4, 7, 8, 1 << 32, math.MinInt, math.MaxInt}
}

// isDirection reports whether two numbers are a direction.
func isDirection(p, q int) bool {
	return -100 <= p && p <= 100 && -100 <= q && q <= 100 && (p != 0 || q != 0)
}

// partsOf returns c and s of a direction times n, and n.
func partsOf(p, q int) (c, s, n int) {
	return p*p - q*q, 2 * p * q, p*p + q*q
}

func wantRotator(p, q int) (impl.Mat, bool) {
	if !isDirection(p, q) {
		return impl.Mat{}, false
	}
	c, s, n := partsOf(p, q)
	return matOver([8]int{c, 0, -s, 0, s, 0, c, 0}, n), true
}

// wantPlate reckons the plate from its product written out: of the k-th power of i as z, cc + ssz, cs(1 - z) twice, and ss + ccz.
func wantPlate(p, q, k int) (impl.Mat, bool) {
	if !isDirection(p, q) || k < 0 || k > 3 {
		return impl.Mat{}, false
	}
	c, s, n := partsOf(p, q)
	re, im := [4]int{1, 0, -1, 0}[k], [4]int{0, 1, 0, -1}[k]
	return matOver([8]int{c*c + s*s*re, s * s * im, c * s * (1 - re), -c * s * im, c * s * (1 - re), -c * s * im, s*s + c*c*re, c * c * im}, n*n), true
}

func wantFilter(p, q int) (impl.Mat, bool) {
	if !isDirection(p, q) {
		return impl.Mat{}, false
	}
	c, s, n := partsOf(p, q)
	return matOver([8]int{c * c, 0, c * s, 0, c * s, 0, s * s, 0}, n*n), true
}

// wantEach returns the matrix that a function makes at each place, if all fractions are told.
func wantEach(at func(row, column int) (impl.Frac, bool)) (impl.Mat, bool) {
	var m impl.Mat
	for i := range m.M {
		a, ok := at(i/2, i%2)
		if !ok {
			return impl.Mat{}, false
		}
		m.M[i] = a
	}
	return m, true
}

// wantTwoProducts returns a times b plus c times d, if all fractions on the way are told.
func wantTwoProducts(a, b, c, d impl.Frac) (impl.Frac, bool) {
	left, leftOk := wantTimes(a, b)
	right, rightOk := wantTimes(c, d)
	if !leftOk || !rightOk {
		return impl.Frac{}, false
	}
	return wantAdd(left, right)
}

func wantMatTimes(a, b impl.Mat) (impl.Mat, bool) {
	return wantEach(func(i, k int) (impl.Frac, bool) {
		return wantTwoProducts(a.M[2*i], b.M[k], a.M[2*i+1], b.M[2+k])
	})
}

func wantAdjoint(m impl.Mat) impl.Mat {
	return mat(mirrored(m.M[0]), mirrored(m.M[2]), mirrored(m.M[1]), mirrored(m.M[3]))
}

func wantMatApply(m impl.Mat, v impl.Jones) (impl.Jones, bool) {
	x, xOk := wantTwoProducts(m.M[0], v.X, m.M[1], v.Y)
	y, yOk := wantTwoProducts(m.M[2], v.X, m.M[3], v.Y)
	return wantBoth(x, xOk, y, yOk)
}

func wantDet(m impl.Mat) (impl.Frac, bool) {
	return wantTwoProducts(m.M[0], m.M[3], opposite(m.M[1]), m.M[2])
}

func wantScale(m impl.Mat, c impl.Frac) (impl.Mat, bool) {
	return wantEach(func(i, k int) (impl.Frac, bool) { return wantTimes(m.M[2*i+k], c) })
}

func wantLossless(m impl.Mat) bool {
	product, ok := wantMatTimes(m, wantAdjoint(m))
	return ok && product == unitMat
}

func wantMatAlike(a, b impl.Mat) bool {
	for i := range a.M {
		for k := range b.M {
			left, leftOk := wantTimes(a.M[i], b.M[k])
			right, rightOk := wantTimes(a.M[k], b.M[i])
			if i != k && (!leftOk || !rightOk || left != right) {
				return false
			}
		}
	}
	return (a == noMat) == (b == noMat)
}
