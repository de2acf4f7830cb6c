package tests

import "loop.example/polarisedlight/impl"

var (
	dark    = jones(zero, zero)
	alongX  = jones(one, zero)
	alongY  = jones(zero, one)
	oneHand = jones(one, frac(0, 1, 1))
)

func jones(x, y impl.Frac) impl.Jones {
	return impl.Jones{X: x, Y: y}
}

// validVectors returns vectors that are dark, have one fraction 0, are ordinary, or have parts at and near the greatest sizes of sums, products and powers.
func validVectors() []impl.Jones {
	const m = partMax
	parts := fracs([][3]int{
		{0, 0, 1}, {1, 0, 1}, {0, 1, 1}, {1, -1, 2}, {-2, 1, 3},
		{m, 0, 1}, {0, -m, 1}, {1, 0, m}, {44721, 0, 1}, {0, 50000, 1}, {1, -1, 50000},
	})
	list := []impl.Jones{
		jones(frac(-1, 0, 1), zero), jones(zero, frac(0, -1, 1)), jones(frac(0, 1, 1), frac(-1, 0, 1)), jones(one, frac(0, -1, 1)),
		jones(frac(3, 0, 5), frac(0, 4, 5)), jones(frac(-4, 0, 5), frac(0, 3, 5)), jones(frac(2, 4, 1), frac(-6, 2, 1)), jones(frac(1, 2, 7), frac(-3, 1, 7)),
		jones(frac(399, 0, 79601), frac(79600, 0, 79601)), jones(frac(-79600, 0, 79601), frac(399, 0, 79601)),
		jones(frac(m, m, m-1), frac(-m, 0, m-1)), jones(frac(m-1, m-1, m), frac(1, 0, m)), jones(frac(31622, 31623, 1), frac(1, 0, 44721)),
		jones(frac(-m, m, 1), frac(m, m, 1)), jones(frac(40000, 0, 1), frac(1, 0, 40000)), jones(frac(16777217, 0, 1), frac(0, 1, 16)),
	}
	for _, x := range parts {
		for _, y := range parts {
			list = append(list, jones(x, y))
		}
	}
	return list
}

// noneVectors returns what is no vector: one of both fractions is none, or both are.
func noneVectors() []impl.Jones {
	var list []impl.Jones
	for _, a := range noneFracs() {
		list = append(list, jones(a, one), jones(one, a), jones(a, zero), jones(zero, a), jones(a, a))
	}
	return list
}

// eachPair calls check with all pairs of valid vectors.
func eachPair(check func(a, b impl.Jones)) {
	for _, a := range validVectors() {
		for _, b := range validVectors() {
			check(a, b)
		}
	}
}

// eachNonePair calls check with pairs of vectors one of which is none, or both are.
func eachNonePair(check func(a, b impl.Jones)) {
	for _, a := range noneVectors() {
		for _, b := range []impl.Jones{dark, alongX, alongY, oneHand, a} {
			check(a, b)
			check(b, a)
		}
	}
}

func mirrored(a impl.Frac) impl.Frac {
	return frac(a.Re, -a.Im, a.Den)
}

func mirroredBoth(a impl.Jones) impl.Jones {
	return jones(mirrored(a.X), mirrored(a.Y))
}

func oppositeBoth(a impl.Jones) impl.Jones {
	return jones(opposite(a.X), opposite(a.Y))
}

// wantBoth returns the vector of two fractions, if both are told.
func wantBoth(x impl.Frac, xOk bool, y impl.Frac, yOk bool) (impl.Jones, bool) {
	if !xOk || !yOk {
		return impl.Jones{}, false
	}
	return jones(x, y), true
}

// wantSum returns the sum of both fractions of a vector, if this is told.
func wantSum(a impl.Jones, ok bool) (impl.Frac, bool) {
	if !ok {
		return impl.Frac{}, false
	}
	return wantAdd(a.X, a.Y)
}

func wantJonesPower(a impl.Jones) (impl.Frac, bool) {
	x, xOk := wantPower(a.X)
	y, yOk := wantPower(a.Y)
	return wantSum(wantBoth(x, xOk, y, yOk))
}

func wantJonesInner(a, b impl.Jones) (impl.Frac, bool) {
	x, xOk := wantTimes(a.X, mirrored(b.X))
	y, yOk := wantTimes(a.Y, mirrored(b.Y))
	return wantSum(wantBoth(x, xOk, y, yOk))
}

func wantJonesAdd(a, b impl.Jones) (impl.Jones, bool) {
	x, xOk := wantAdd(a.X, b.X)
	y, yOk := wantAdd(a.Y, b.Y)
	return wantBoth(x, xOk, y, yOk)
}

func wantJonesTimes(a impl.Jones, c impl.Frac) (impl.Jones, bool) {
	x, xOk := wantTimes(a.X, c)
	y, yOk := wantTimes(a.Y, c)
	return wantBoth(x, xOk, y, yOk)
}

func wantJonesAlike(a, b impl.Jones) bool {
	left, leftOk := wantTimes(a.X, b.Y)
	right, rightOk := wantTimes(a.Y, b.X)
	return leftOk && rightOk && left == right && (a == dark) == (b == dark)
}
