package tests

import (
	"math"
	"testing"

	"loop.example/polarisedlight/impl"
)

// Promise 18.
func TestFracCompareExchangedAndSign(t *testing.T) {
	for _, a := range validFracs() {
		for _, b := range validFracs() {
			sign, ok := impl.FracCompare(a, b)
			if a.Im != 0 || b.Im != 0 {
				if ok || sign != 0 {
					t.Errorf("FracCompare of %v and %v is %d, %v", a, b, sign, ok)
				}
				continue
			}
			if want := numbersOf(a).x.Cmp(numbersOf(b).x); !ok || sign != want {
				t.Errorf("FracCompare of %v and %v is %d, %v, not %d", a, b, sign, ok, want)
			}
			if other, ok := impl.FracCompare(b, a); !ok || other != -sign {
				t.Errorf("FracCompare of %v and %v is %d, and %d exchanged", a, b, sign, other)
			}
			if (sign == 0) != (a == b) {
				t.Errorf("FracCompare of %v and %v is %d", a, b, sign)
			}
			if c, ok := impl.FracLess(a, b); ok && (c.Re > 0) != (sign > 0) || ok && (c.Re < 0) != (sign < 0) {
				t.Errorf("FracCompare of %v and %v is %d, and FracLess %v", a, b, sign, c)
			}
		}
	}
}

// Promise 18: what is none.
func TestFracCompareOfNone(t *testing.T) {
	for _, a := range noneFracs() {
		for _, pair := range [][2]impl.Frac{{a, a}, {a, one}, {one, a}, {a, zero}, {zero, a}} {
			if sign, ok := impl.FracCompare(pair[0], pair[1]); ok || sign != 0 {
				t.Errorf("FracCompare of %v and %v is %d, %v", pair[0], pair[1], sign, ok)
			}
		}
	}
}

// Promise 18: pairs that are told; the last ones differ by less than any float tells.
func TestFracCompareNumbers(t *testing.T) {
	const m = partMax
	cases := []struct {
		a, b impl.Frac
		want int
	}{
		{frac(1, 0, 3), frac(1, 0, 2), -1},
		{frac(-1, 0, 3), frac(-1, 0, 2), 1},
		{frac(2, 0, 3), frac(2, 0, 3), 0},
		{frac(-m, 0, 1), frac(m, 0, 1), -1},
		{frac(m-1, 0, m), frac(m-2, 0, m-1), 1},
		{frac(1, 0, m), frac(1, 0, m-1), -1},
	}
	for _, c := range cases {
		if sign, ok := impl.FracCompare(c.a, c.b); !ok || sign != c.want {
			t.Errorf("FracCompare of %v and %v is %d, %v, not %d", c.a, c.b, sign, ok, c.want)
		}
	}
}

// Promise 19.
func TestFracWideNearTheFraction(t *testing.T) {
	for _, a := range validFracs() {
		z, ok := impl.FracWide(a)
		den := float64(a.Den)
		if !ok || !wideExactly(z, complex(float64(a.Re)/den, float64(a.Im)/den)) {
			t.Errorf("FracWide of %v is %v, %v", a, z, ok)
		}
		x, y := real(z)*den-float64(a.Re), imag(z)*den-float64(a.Im)
		if math.Abs(x) >= 0.001 || math.Abs(y) >= 0.001 {
			t.Errorf("FracWide of %v is %v, which is %v and %v off", a, z, x, y)
		}
		if a.Den == 1 && z != complex(float64(a.Re), float64(a.Im)) {
			t.Errorf("FracWide of %v is %v", a, z)
		}
	}
	for _, a := range noneFracs() {
		if z, ok := impl.FracWide(a); ok || z != 0 {
			t.Errorf("FracWide of %v is %v, %v", a, z, ok)
		}
	}
}

// Promise 19: wide numbers that are told; no zero has a sign.
func TestFracWideNumbers(t *testing.T) {
	cases := []struct {
		a    impl.Frac
		want complex128
	}{
		{zero, complex(0, 0)},
		{frac(1, 0, 4), complex(0.25, 0)},
		{frac(0, -5, 2), complex(0, -2.5)},
		{frac(1, -2, 10), complex(0.1, -0.2)},
		{frac(partMax, -partMax, 1), complex(2e9, -2e9)},
		{frac(1, -3, partMax), complex(5e-10, -1.5e-9)},
	}
	for _, c := range cases {
		if z, ok := impl.FracWide(c.a); !ok || !wideExactly(z, c.want) {
			t.Errorf("FracWide of %v is %v, %v, not %v", c.a, z, ok, c.want)
		}
	}
}

// Promise 20.
func TestFracSingleIsWideConverted(t *testing.T) {
	for _, a := range append(validFracs(), noneFracs()...) {
		wide, wideOk := impl.FracWide(a)
		if z, ok := impl.FracSingle(a); ok != wideOk || !singleExactly(z, complex64(wide)) {
			t.Errorf("FracSingle of %v is %v, %v, and FracWide %v, %v", a, z, ok, wide, wideOk)
		}
	}
}

// Promise 20: single numbers that are told; parts that a single number does not hold are rounded, those of the last one only once they are divided, and what is none fails.
func TestFracSingleNumbers(t *testing.T) {
	cases := []struct {
		a    impl.Frac
		want complex64
	}{
		{zero, 0},
		{frac(1, -3, 4), complex(0.25, -0.75)},
		{frac(1, 2, 3), complex(float32(1)/3, float32(2)/3)},
		{frac(16777217, -16777219, 1), complex(16777216, -16777220)},
		{frac(partMax-1, 0, 1), complex(2000000000, 0)},
		{frac(partMax-1, 0, 16777217), complex(float32(float64(partMax-1)/16777217), 0)},
	}
	for _, c := range cases {
		if z, ok := impl.FracSingle(c.a); !ok || !singleExactly(z, c.want) {
			t.Errorf("FracSingle of %v is %v, %v, not %v", c.a, z, ok, c.want)
		}
	}
	for _, a := range noneFracs() {
		if z, ok := impl.FracSingle(a); ok || z != 0 {
			t.Errorf("FracSingle of %v is %v, %v", a, z, ok)
		}
	}
}
