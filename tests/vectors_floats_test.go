package tests

import (
	"testing"

	"loop.example/polarisedlight/impl"
)

// Promise 27.
func TestJonesWideOfBothFractions(t *testing.T) {
	for _, a := range validVectors() {
		x, y, ok := impl.JonesWide(a)
		wantX, okX := impl.FracWide(a.X)
		wantY, okY := impl.FracWide(a.Y)
		if !ok || !okX || !okY || !wideExactly(x, wantX) || !wideExactly(y, wantY) {
			t.Errorf("JonesWide of %v is %v, %v, %v, and FracWide %v and %v", a, x, y, ok, wantX, wantY)
		}
	}
	for _, a := range noneVectors() {
		if x, y, ok := impl.JonesWide(a); ok || x != 0 || y != 0 {
			t.Errorf("JonesWide of %v is %v, %v, %v", a, x, y, ok)
		}
	}
}

// Promise 27: wide numbers that are told.
func TestJonesWideNumbers(t *testing.T) {
	const m = partMax
	cases := []struct {
		a    impl.Jones
		x, y complex128
	}{
		{dark, 0, 0},
		{oneHand, 1, 1i},
		{jones(frac(1, 0, 4), frac(0, -5, 2)), 0.25, -2.5i},
		{jones(frac(1, -2, 10), frac(m, -m, 1)), complex(0.1, -0.2), complex(2e9, -2e9)},
		{jones(zero, frac(1, -3, m)), 0, complex(5e-10, -1.5e-9)},
	}
	for _, c := range cases {
		if x, y, ok := impl.JonesWide(c.a); !ok || !wideExactly(x, c.x) || !wideExactly(y, c.y) {
			t.Errorf("JonesWide of %v is %v, %v, %v, not %v and %v", c.a, x, y, ok, c.x, c.y)
		}
	}
}

// fits reports whether a wide number, converted to complex64 and back, is equal to itself.
func fits(z complex128) bool {
	return complex128(complex64(z)) == z
}

// Promise 28.
func TestJonesFitsAcrossAndMirrored(t *testing.T) {
	for _, x := range validFracs() {
		for _, y := range validFracs() {
			a := jones(x, y)
			wideX, _ := impl.FracWide(x)
			wideY, _ := impl.FracWide(y)
			holds := impl.JonesFits(a)
			if want := fits(wideX) && fits(wideY); holds != want {
				t.Errorf("JonesFits of %v is not %v", a, want)
			}
			across, _ := impl.JonesCross(a)
			mirror, _ := impl.JonesMirror(a)
			if holds && !(impl.JonesFits(across) && impl.JonesFits(mirror)) {
				t.Errorf("JonesFits of %v holds, and not across and mirrored", a)
			}
		}
	}
	for _, a := range noneVectors() {
		if impl.JonesFits(a) {
			t.Errorf("JonesFits of %v holds", a)
		}
	}
}

// Promise 28: vectors of which all is exact in single numbers, or one part is not.
func TestJonesFitsNumbers(t *testing.T) {
	const m, over = partMax, 16777217
	cases := []struct {
		a    impl.Jones
		want bool
	}{
		{dark, true},
		{alongX, true},
		{oneHand, true},
		{jones(frac(1, -3, 4), frac(5, 7, 1024)), true},
		{jones(frac(m, -m, 1), frac(over-1, over+1, 1)), true},
		{jones(frac(1, 0, 3), zero), false},
		{jones(zero, frac(0, 1, 3)), false},
		{jones(frac(over, 0, 1), one), false},
		{jones(frac(0, over, 1), one), false},
		{jones(one, frac(-over, 0, 1)), false},
		{jones(one, frac(0, -over, 1)), false},
		{jones(frac(m-1, 0, 1), one), false},
		{jones(one, frac(1, 0, m)), false},
		{impl.Jones{}, false},
		{jones(one, frac(2, 0, 2)), false},
		{jones(frac(2, 0, 2), one), false},
	}
	for _, c := range cases {
		if impl.JonesFits(c.a) != c.want {
			t.Errorf("JonesFits of %v is not %v", c.a, c.want)
		}
	}
}
