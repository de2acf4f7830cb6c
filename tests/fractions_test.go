package tests

import (
	"math"
	"testing"

	"loop.example/polarisedlight/impl"
)

// pairing is a function that makes an exact fraction of two of them.
type pairing func(a, b impl.Frac) (impl.Frac, bool)

// told fails the test unless f of both is told as wanted.
func told(t *testing.T, name string, f pairing, a, b, want impl.Frac) {
	t.Helper()
	if c, ok := f(a, b); !ok || c != want {
		t.Errorf("%s of %v and %v is %v, %v, not %v", name, a, b, c, ok, want)
	}
}

// fails fails the test unless f of both fails with the zero value.
func fails(t *testing.T, name string, f pairing, a, b impl.Frac) {
	t.Helper()
	if c, ok := f(a, b); ok || c != (impl.Frac{}) {
		t.Errorf("%s of %v and %v is %v, %v", name, a, b, c, ok)
	}
}

// eachTold calls check with all pairs of valid fractions for which f succeeds, and with what it is.
func eachTold(f pairing, check func(a, b, c impl.Frac)) {
	for _, a := range validFracs() {
		for _, b := range validFracs() {
			if c, ok := f(a, b); ok {
				check(a, b, c)
			}
		}
	}
}

// asWanted holds f against exact numbers without bounds, for all pairs of valid fractions, and against what is none.
func asWanted(t *testing.T, name string, f, want pairing) {
	t.Helper()
	for _, a := range validFracs() {
		for _, b := range validFracs() {
			if c, ok := want(a, b); ok {
				told(t, name, f, a, b, c)
			} else {
				fails(t, name, f, a, b)
			}
		}
		for _, b := range noneFracs() {
			fails(t, name, f, a, b)
			fails(t, name, f, b, a)
			fails(t, name, f, b, b)
		}
	}
}

func opposite(a impl.Frac) impl.Frac {
	return frac(-a.Re, -a.Im, a.Den)
}

// Promise 10.
func TestFracValidMakesItself(t *testing.T) {
	for _, a := range validFracs() {
		if !impl.FracValid(a) {
			t.Errorf("FracValid of %v does not hold", a)
		}
		if b, ok := impl.FracMake(a.Re, a.Im, a.Den); !ok || b != a {
			t.Errorf("FracMake of the parts of %v is %v, %v", a, b, ok)
		}
		told(t, "FracLess", impl.FracLess, a, a, zero)
	}
}

// Promise 10: what is none.
func TestFracValidOfNone(t *testing.T) {
	for _, a := range noneFracs() {
		if impl.FracValid(a) {
			t.Errorf("FracValid of %v holds", a)
		}
	}
}

// Promise 10: all small fractions, their common divisors found by trial.
func TestFracValidSmall(t *testing.T) {
	for re := -7; re <= 7; re++ {
		for im := -7; im <= 7; im++ {
			for den := -7; den <= 7; den++ {
				want := den >= 1
				for d := 2; d <= 7; d++ {
					want = want && (re%d != 0 || im%d != 0 || den%d != 0)
				}
				if a := (frac(re, im, den)); impl.FracValid(a) != want {
					t.Errorf("FracValid of %v is not %v", a, want)
				}
			}
		}
	}
}

// Promise 11.
func TestFracMakeValidAndDoubled(t *testing.T) {
	sizes := []int{
		0, 1, -1, 2, -3, 4, 6, -12, 35, 1000, partMax - 1, partMax, -partMax, partMax + 1, 2 * partMax, partMax * (partMax / 10),
		makeMax / 3, makeMax / 2, -makeMax / 2, makeMax/2 + 1, makeMax - 1, makeMax, 1 - makeMax, -makeMax,
	}
	for _, re := range sizes {
		for _, im := range sizes {
			for _, den := range sizes {
				if den >= 1 {
					makesLowest(t, re, im, den)
				} else if a, ok := impl.FracMake(re, im, den); ok || a != (impl.Frac{}) {
					t.Errorf("FracMake of %d, %d and %d is %v, %v", re, im, den, a, ok)
				}
			}
		}
	}
}

// makesLowest holds FracMake of numbers in range against exact numbers, and against itself with all of them doubled.
func makesLowest(t *testing.T, re, im, den int) {
	t.Helper()
	a, ok := impl.FracMake(re, im, den)
	want, wantOk := numbersOver(re, im, den).frac()
	if a != want || ok != wantOk || ok != impl.FracValid(a) {
		t.Errorf("FracMake of %d, %d and %d is %v, %v", re, im, den, a, ok)
	}
	const half = makeMax / 2
	if max(re, im, den) > half || min(re, im) < -half {
		return
	}
	if b, bOk := impl.FracMake(2*re, 2*im, 2*den); b != a || bOk != ok {
		t.Errorf("FracMake of %d, %d and %d doubled is %v, %v", re, im, den, b, bOk)
	}
}

// Promise 11: fractions told in numbers.
func TestFracMakeNumbers(t *testing.T) {
	cases := []struct {
		re, im, den int
		want        impl.Frac
	}{
		{2, 4, 6, frac(1, 2, 3)},
		{-6, 0, 9, frac(-2, 0, 3)},
		{0, -10, 4, frac(0, -5, 2)},
		{0, 0, 7, zero},
		{0, 0, makeMax, zero},
		{6, 10, 15, frac(6, 10, 15)},
		{makeMax, -makeMax, makeMax, frac(1, -1, 1)},
		{-makeMax, 0, 500000000, frac(-partMax, 0, 1)},
		{500000000, 0, makeMax, frac(1, 0, partMax)},
	}
	for _, c := range cases {
		if a, ok := impl.FracMake(c.re, c.im, c.den); !ok || a != c.want {
			t.Errorf("FracMake of %d, %d and %d is %v, %v, not %v", c.re, c.im, c.den, a, ok, c.want)
		}
	}
}

// Promise 11: numbers beyond the bounds of FracMake fail, even if they have lowest terms that are an exact fraction.
func TestFracMakeBounds(t *testing.T) {
	const least, most = math.MinInt, math.MaxInt
	cases := [][3]int{
		{1, 0, 0}, {1, 0, -1}, {-2, -4, -6}, {0, 0, 0}, {0, 0, least},
		{partMax + 1, 0, 1}, {0, -partMax - 1, 1}, {1, 0, partMax + 1}, {makeMax, 0, 1}, {1, 0, makeMax}, {0, 1 - makeMax, makeMax},
		{makeMax + 1, 0, makeMax + 1}, {2 * makeMax, 0, 2 * makeMax}, {2 * makeMax, 0, makeMax}, {0, 2 * makeMax, makeMax},
		{-2 * makeMax, 0, makeMax}, {0, -2 * makeMax, makeMax}, {0, 0, 2 * makeMax}, {0, 0, makeMax + 1}, {makeMax, 0, 2 * makeMax},
		{most, 0, most}, {least, 0, most}, {least, least, least}, {least, 0, 1}, {0, least, 1}, {most, most, most}, {0, 0, most},
	}
	for _, c := range cases {
		if a, ok := impl.FracMake(c[0], c[1], c[2]); ok || a != (impl.Frac{}) {
			t.Errorf("FracMake of %v is %v, %v", c, a, ok)
		}
	}
}

// Promise 12.
func TestFracAddExchangedAndBack(t *testing.T) {
	asWanted(t, "FracAdd", impl.FracAdd, wantAdd)
	eachTold(impl.FracAdd, func(a, b, c impl.Frac) {
		told(t, "FracAdd", impl.FracAdd, b, a, c)
		if back, ok := impl.FracLess(c, b); ok && back != a {
			t.Errorf("FracLess of %v and %v is %v, not %v", c, b, back, a)
		}
	})
}

// Promise 12: sums told in numbers, those of the greatest parts and bottoms too.
func TestFracAddNumbers(t *testing.T) {
	const m = partMax
	cases := []struct{ a, b, want impl.Frac }{
		{frac(1, 0, 2), frac(1, 0, 3), frac(5, 0, 6)},
		{frac(1, 1, 4), frac(1, 1, 4), frac(1, 1, 2)},
		{frac(1, 2, 3), frac(2, -2, 3), one},
		{frac(m/2, 0, 1), frac(m/2, -m, 1), frac(m, -m, 1)},
		{frac(m-1, 1, m), frac(1, m-1, m), frac(1, 1, 1)},
		{frac(m-1, 0, m), frac(m-1, 0, m), frac(m-1, 0, m/2)},
	}
	for _, c := range cases {
		told(t, "FracAdd", impl.FracAdd, c.a, c.b, c.want)
	}
	fails(t, "FracAdd", impl.FracAdd, frac(m, 0, 1), one)
	fails(t, "FracAdd", impl.FracAdd, frac(1, 0, m), frac(1, 0, m-1))
	fails(t, "FracAdd", impl.FracAdd, frac(2, 0, 4), one)
}

// Promise 13.
func TestFracLessExchangedAndBack(t *testing.T) {
	asWanted(t, "FracLess", impl.FracLess, wantLess)
	eachTold(impl.FracLess, func(a, b, c impl.Frac) {
		told(t, "FracLess", impl.FracLess, b, a, opposite(c))
		if back, ok := impl.FracAdd(c, b); ok && back != a {
			t.Errorf("FracAdd of %v and %v is %v, not %v", c, b, back, a)
		}
	})
}

// Promise 13: differences told in numbers.
func TestFracLessNumbers(t *testing.T) {
	const m = partMax
	cases := []struct{ a, b, want impl.Frac }{
		{frac(1, 0, 2), frac(1, 0, 3), frac(1, 0, 6)},
		{frac(1, 2, 3), frac(1, -1, 3), frac(0, 1, 1)},
		{frac(m, -m, 1), frac(m, 0, 1), frac(0, -m, 1)},
		{zero, frac(m, -m, 1), frac(-m, m, 1)},
		{frac(m-1, 0, m), one, frac(-1, 0, m)},
	}
	for _, c := range cases {
		told(t, "FracLess", impl.FracLess, c.a, c.b, c.want)
	}
	fails(t, "FracLess", impl.FracLess, frac(m, 0, 1), frac(-1, 0, 1))
	fails(t, "FracLess", impl.FracLess, one, frac(0, math.MinInt, 1))
}

// Promise 14.
func TestFracTimesExchangedAndBack(t *testing.T) {
	asWanted(t, "FracTimes", impl.FracTimes, wantTimes)
	eachTold(impl.FracTimes, func(a, b, c impl.Frac) {
		told(t, "FracTimes", impl.FracTimes, b, a, c)
		if back, ok := impl.FracOver(c, b); ok && back != a {
			t.Errorf("FracOver of %v and %v is %v, not %v", c, b, back, a)
		}
		powerA, okA := impl.FracPower(a)
		powerB, okB := impl.FracPower(b)
		powerC, okC := impl.FracPower(c)
		if p, ok := impl.FracTimes(powerA, powerB); okA && okB && okC && ok && p != powerC {
			t.Errorf("FracPower of the product of %v and %v is %v, not %v", a, b, powerC, p)
		}
	})
}

// Promise 14: products told in numbers, those of the greatest parts and bottoms too.
func TestFracTimesNumbers(t *testing.T) {
	const m = partMax
	cases := []struct{ a, b, want impl.Frac }{
		{frac(1, 2, 1), frac(3, -1, 1), frac(5, 5, 1)},
		{frac(1, 1, 2), frac(1, -1, 1), one},
		{frac(2, 0, 3), frac(0, 3, 4), frac(0, 1, 2)},
		{frac(40000, 0, 1), frac(0, 50000, 1), frac(0, m, 1)},
		{frac(1, 0, 40000), frac(-1, 0, 50000), frac(-1, 0, m)},
		{frac(m, 0, m-1), frac(m-1, 0, m), one},
		{frac(m, m, m-1), frac(m-1, m-1, m), frac(0, 2, 1)},
	}
	for _, c := range cases {
		told(t, "FracTimes", impl.FracTimes, c.a, c.b, c.want)
	}
	fails(t, "FracTimes", impl.FracTimes, frac(40000, 0, 1), frac(50001, 0, 1))
	fails(t, "FracTimes", impl.FracTimes, frac(1, 0, 40000), frac(1, 0, 50001))
	fails(t, "FracTimes", impl.FracTimes, zero, frac(1, 0, 0))
}

// Promise 15.
func TestFracOverBack(t *testing.T) {
	asWanted(t, "FracOver", impl.FracOver, wantOver)
	eachTold(impl.FracOver, func(a, b, c impl.Frac) {
		if back, ok := impl.FracTimes(c, b); ok && back != a {
			t.Errorf("FracTimes of %v and %v is %v, not %v", c, b, back, a)
		}
	})
}

// Promise 15: quotients told in numbers; the last ones fail for want of 1 over the second one, though the quotient itself is an exact fraction.
func TestFracOverNumbers(t *testing.T) {
	const m = partMax
	great := frac(m, m, 1)
	cases := []struct{ a, b, want impl.Frac }{
		{one, frac(1, 1, 1), frac(1, -1, 2)},
		{frac(5, 5, 1), frac(1, 2, 1), frac(3, -1, 1)},
		{frac(1, 0, 2), frac(-1, 0, 4), frac(-2, 0, 1)},
		{zero, frac(0, 3, 1), zero},
		{one, frac(0, m, 1), frac(0, -1, m)},
		{one, frac(1, 0, m), frac(m, 0, 1)},
		{frac(m, 0, m-1), frac(m, 0, m-1), one},
	}
	for _, c := range cases {
		told(t, "FracOver", impl.FracOver, c.a, c.b, c.want)
	}
	fails(t, "FracOver", impl.FracOver, one, zero)
	fails(t, "FracOver", impl.FracOver, zero, zero)
	fails(t, "FracOver", impl.FracOver, frac(m, 0, 1), frac(1, 0, 2))
	fails(t, "FracOver", impl.FracOver, frac(2, 0, 2), one)
	fails(t, "FracOver", impl.FracOver, great, great)
	fails(t, "FracOver", impl.FracOver, zero, great)
}

// Promise 16.
func TestFracMirrorLeadsBack(t *testing.T) {
	for _, a := range validFracs() {
		m, ok := impl.FracMirror(a)
		if want := (frac(a.Re, -a.Im, a.Den)); !ok || m != want {
			t.Errorf("FracMirror of %v is %v, %v", a, m, ok)
		}
		if back, ok := impl.FracMirror(m); !ok || back != a {
			t.Errorf("FracMirror of %v leads back to %v, %v", a, back, ok)
		}
		if (m == a) != (a.Im == 0) {
			t.Errorf("FracMirror of %v is %v", a, m)
		}
	}
	for _, a := range noneFracs() {
		if m, ok := impl.FracMirror(a); ok || m != (impl.Frac{}) {
			t.Errorf("FracMirror of %v is %v, %v", a, m, ok)
		}
	}
}

// Promise 17.
func TestFracPowerRealAndMirrored(t *testing.T) {
	for _, a := range validFracs() {
		p, ok := impl.FracPower(a)
		if want, wantOk := wantPower(a); p != want || ok != wantOk {
			t.Errorf("FracPower of %v is %v, %v, not %v, %v", a, p, ok, want, wantOk)
		}
		if ok && (p.Im != 0 || p.Re < 0 || (p == zero) != (a == zero)) {
			t.Errorf("FracPower of %v is %v", a, p)
		}
		mirrored := frac(a.Re, -a.Im, a.Den)
		if other, otherOk := impl.FracPower(mirrored); other != p || otherOk != ok {
			t.Errorf("FracPower of %v is %v, and %v mirrored", a, p, other)
		}
	}
	for _, a := range noneFracs() {
		if p, ok := impl.FracPower(a); ok || p != (impl.Frac{}) {
			t.Errorf("FracPower of %v is %v, %v", a, p, ok)
		}
	}
}

// Promise 17: powers told in numbers; beside the greatest ones, those that are none.
func TestFracPowerNumbers(t *testing.T) {
	cases := []struct{ a, want impl.Frac }{
		{zero, zero},
		{frac(3, 4, 5), one},
		{frac(-1, 1, 2), frac(1, 0, 2)},
		{frac(0, -3, 2), frac(9, 0, 4)},
		{frac(44721, 0, 1), frac(1999967841, 0, 1)},
		{frac(31622, 31623, 1), frac(1999965013, 0, 1)},
		{frac(1200039999, 1599920000, 1999960001), one},
		{frac(44722, 0, 1), impl.Frac{}},
		{frac(1, 0, 44722), impl.Frac{}},
		{frac(partMax, -partMax, 1), impl.Frac{}},
	}
	for _, c := range cases {
		if p, ok := impl.FracPower(c.a); p != c.want || ok != (c.want != impl.Frac{}) {
			t.Errorf("FracPower of %v is %v, %v, not %v", c.a, p, ok, c.want)
		}
	}
}
