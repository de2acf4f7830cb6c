package tests

import (
	"math"
	"testing"

	"loop.example/polarisedlight/impl"
)

// rounded converts the product, so that it can not be fused with a sum outside.
func rounded(x, y float64) float64 {
	return float64(x * y)
}

// Promise 1.
func TestWideTimesExchangedAndMirrored(t *testing.T) {
	list := wideNumbers()
	for _, a := range list {
		for _, b := range list {
			z := impl.WideTimes(a, b)
			if other := impl.WideTimes(b, a); !wideExactly(z, other) {
				t.Fatalf("WideTimes of %v and %v is %v, and %v exchanged", a, b, z, other)
			}
			mirrored := impl.WideTimes(impl.WideMirror(a), impl.WideMirror(b))
			if !wideRoughly(impl.WideMirror(z), mirrored) {
				t.Fatalf("WideTimes of %v and %v is %v, and %v of both mirrored", a, b, z, mirrored)
			}
		}
	}
}

// Promise 1: what the product is.
func TestWideTimesParts(t *testing.T) {
	list := wideNumbers()
	for _, a := range list {
		for _, b := range list {
			x, y, v, w := real(a), imag(a), real(b), imag(b)
			want := complex(rounded(x, v)-rounded(y, w), rounded(x, w)+rounded(y, v))
			if z := impl.WideTimes(a, b); !wideExactly(z, want) {
				t.Fatalf("WideTimes of %v and %v is %v, not %v", a, b, z, want)
			}
		}
	}
}

// Promise 1: products told in numbers; the ones with 0.1 and 0.3 tell a rounded product from a fused one.
func TestWideTimesNumbers(t *testing.T) {
	cases := []struct{ a, b, want complex128 }{
		{1 + 2i, 3 - 1i, 5 + 5i},
		{1i, 1i, -1},
		{-2.5 + 4i, 2 + 8i, -37 - 12i},
		{0.1 + 0.3i, 0.3 + 0.1i, complex(0, 0.1)},
		{0.1 + 0.3i, 0.1 - 0.3i, complex(0.1, 0)},
		{complex(minus0, 0), 1, complex(minus0, 0)},
		{complex(minus0, minus0), complex(1, 0), complex(0, minus0)},
		{complex(0, 0), complex(-1, 0), complex(minus0, 0)},
		{complex(inf, 0), 1, complex(inf, nan)},
		{complex(inf, inf), complex(1, 1), complex(nan, inf)},
		{complex(inf, 1), complex(1, inf), complex(nan, inf)},
		{complex(1e200, 0), complex(1e200, 1), complex(inf, 1e200)},
		{complex(nan, 0), 0, complex(nan, nan)},
		{complex(1, nan), complex(inf, 2), complex(nan, nan)},
	}
	for _, c := range cases {
		if z := impl.WideTimes(c.a, c.b); !wideExactly(z, c.want) {
			t.Errorf("WideTimes of %v and %v is %v, not %v", c.a, c.b, z, c.want)
		}
	}
}

// Promise 2.
func TestWideOverOne(t *testing.T) {
	for _, a := range wideNumbers() {
		if z := impl.WideOver(a, 1); wideFinite(a) && z != a {
			t.Errorf("WideOver of %v and 1 is %v", a, z)
		}
	}
}

// Promise 2: what the quotient is.
func TestWideOverAsGoDivides(t *testing.T) {
	list := wideNumbers()
	for _, a := range list {
		for _, b := range list {
			if z := impl.WideOver(a, b); !wideExactly(z, a/b) {
				t.Fatalf("WideOver of %v and %v is %v, not %v", a, b, z, a/b)
			}
		}
	}
}

// Promise 2: quotients told in numbers.
func TestWideOverNumbers(t *testing.T) {
	cases := []struct{ a, b, want complex128 }{
		{2, 1i, -2i},
		{5 + 5i, 1 + 2i, 3 - 1i},
		{complex(1e300, 1e300), complex(1e300, 1e300), 1},
		{complex(1e-300, 1e-300), complex(1e-300, 1e-300), 1},
		{1, 0, complex(inf, nan)},
		{complex(1, 1), complex(minus0, 0), complex(-inf, -inf)},
		{0, 0, complex(nan, nan)},
		{complex(inf, 0), 1, complex(inf, nan)},
		{1, complex(inf, inf), complex(0, minus0)},
		{complex(nan, 1), 1, complex(nan, nan)},
		{1, complex(1, nan), complex(nan, nan)},
	}
	for _, c := range cases {
		if z := impl.WideOver(c.a, c.b); !wideRoughly(z, c.want) {
			t.Errorf("WideOver of %v and %v is %v, not %v", c.a, c.b, z, c.want)
		}
	}
}

// Promise 3.
func TestSingleTimesExchangedAndWide(t *testing.T) {
	list := singleNumbers()
	for _, a := range list {
		for _, b := range list {
			z := impl.SingleTimes(a, b)
			if other := impl.SingleTimes(b, a); !singleExactly(z, other) {
				t.Fatalf("SingleTimes of %v and %v is %v, and %v exchanged", a, b, z, other)
			}
			wide := complex64(impl.WideTimes(complex128(a), complex128(b)))
			if !singleExactly(z, wide) {
				t.Fatalf("SingleTimes of %v and %v is %v, and WideTimes %v", a, b, z, wide)
			}
		}
	}
}

// Promise 3: products told in numbers; with above1 and below1, a product of single parts would lose what is left.
func TestSingleTimesNumbers(t *testing.T) {
	huge := float32(math.MaxFloat32)
	cases := []struct{ a, b, want complex64 }{
		{1i, 1i, -1},
		{1 + 2i, 3 - 1i, 5 + 5i},
		{complex(above1, 1), complex(below1, 1), complex(float32(-1.0/67108864), 2)},
		{complex(huge, huge), complex(huge, huge), complex(0, float32(inf))},
		{complex(single0, 0), 1, complex(single0, 0)},
		{complex(float32(inf), 0), 1, complex(float32(inf), singleNo)},
		{complex(singleNo, 0), 1, complex(singleNo, singleNo)},
	}
	for _, c := range cases {
		if z := impl.SingleTimes(c.a, c.b); !singleExactly(z, c.want) {
			t.Errorf("SingleTimes of %v and %v is %v, not %v", c.a, c.b, z, c.want)
		}
	}
}

// Promise 4.
func TestSingleOverOne(t *testing.T) {
	for _, a := range singleNumbers() {
		if z := impl.SingleOver(a, 1); wideFinite(complex128(a)) && z != a {
			t.Errorf("SingleOver of %v and 1 is %v", a, z)
		}
	}
}

// Promise 4: what the quotient is.
func TestSingleOverAsGoDivides(t *testing.T) {
	list := singleNumbers()
	for _, a := range list {
		for _, b := range list {
			if z := impl.SingleOver(a, b); !singleExactly(z, a/b) {
				t.Fatalf("SingleOver of %v and %v is %v, not %v", a, b, z, a/b)
			}
		}
	}
}

// Promise 4: quotients told in numbers.
func TestSingleOverNumbers(t *testing.T) {
	endless := float32(inf)
	cases := []struct{ a, b, want complex64 }{
		{2, 1i, -2i},
		{5 + 5i, 1 + 2i, 3 - 1i},
		{complex(1e30, 1e30), complex(1e30, 1e30), 1},
		{1, 3, complex(float32(1)/3, 0)},
		{1, 0, complex(endless, singleNo)},
		{complex(1, 1), complex(single0, 0), complex(-endless, -endless)},
		{0, 0, complex(singleNo, singleNo)},
		{1, complex(endless, endless), 0},
	}
	for _, c := range cases {
		z := impl.SingleOver(c.a, c.b)
		if !wideRoughly(complex128(z), complex128(c.want)) {
			t.Errorf("SingleOver of %v and %v is %v, not %v", c.a, c.b, z, c.want)
		}
	}
}

// Promise 5.
func TestWidePowerMirroredAndSigned(t *testing.T) {
	for _, z := range wideNumbers() {
		power := impl.WidePower(z)
		if math.Signbit(power) && !math.IsNaN(power) {
			t.Errorf("WidePower of %v is %v", z, power)
		}
		plus, minus := impl.SignedPair(z)
		for _, other := range []complex128{impl.WideMirror(z), plus, minus} {
			if p := impl.WidePower(other); !exactly(p, power) {
				t.Errorf("WidePower of %v is %v, and %v of %v", z, power, p, other)
			}
		}
		want := rounded(real(z), real(z)) + rounded(imag(z), imag(z))
		if !exactly(power, want) {
			t.Errorf("WidePower of %v is %v, not %v", z, power, want)
		}
	}
}

// Promise 5: powers told in numbers; the one of 0.1 and 0.3 tells a rounded product from a fused one.
func TestWidePowerNumbers(t *testing.T) {
	cases := []struct {
		z    complex128
		want float64
	}{
		{3 + 4i, 25},
		{-3 - 4i, 25},
		{0.1 + 0.3i, 0.1},
		{complex(minus0, minus0), 0},
		{complex(1e200, 0), inf},
		{complex(1e-200, -1e-200), 0},
		{complex(-inf, 1), inf},
		{complex(inf, nan), nan},
		{complex(nan, 0), nan},
	}
	for _, c := range cases {
		if p := impl.WidePower(c.z); !exactly(p, c.want) {
			t.Errorf("WidePower of %v is %v, not %v", c.z, p, c.want)
		}
	}
}

// Promise 6.
func TestWideMirrorLeadsBack(t *testing.T) {
	for _, z := range wideNumbers() {
		m := impl.WideMirror(z)
		if back := impl.WideMirror(m); !wideExactly(back, z) {
			t.Errorf("WideMirror of %v leads back to %v", z, back)
		}
		if !exactly(real(m), real(z)) {
			t.Errorf("WideMirror of %v is %v", z, m)
		}
		if y := imag(z); !math.IsNaN(y) && !exactly(imag(m), math.Copysign(y, -math.Copysign(1, y))) {
			t.Errorf("WideMirror of %v has the imaginary part %v", z, imag(m))
		}
	}
}

// Promise 6: mirrored numbers told, the zeros of both signs too.
func TestWideMirrorNumbers(t *testing.T) {
	cases := []struct{ z, want complex128 }{
		{1 - 2i, 1 + 2i},
		{complex(0, 0), complex(0, minus0)},
		{complex(minus0, minus0), complex(minus0, 0)},
		{complex(-inf, inf), complex(-inf, -inf)},
		{complex(nan, 1), complex(nan, -1)},
		{complex(minus0, nan), complex(minus0, nan)},
	}
	for _, c := range cases {
		if m := impl.WideMirror(c.z); !wideExactly(m, c.want) {
			t.Errorf("WideMirror of %v is %v, not %v", c.z, m, c.want)
		}
	}
}

// Promise 7.
func TestWideSameExchangedAndItself(t *testing.T) {
	list := wideNumbers()
	for _, a := range list {
		for _, b := range list {
			same := impl.WideSame(a, b)
			if same != (real(a) == real(b) && imag(a) == imag(b)) {
				t.Fatalf("WideSame of %v and %v is %v", a, b, same)
			}
			if same && !(impl.WideSame(b, a) && impl.WideSame(a, a) && impl.WideSame(b, b)) {
				t.Fatalf("WideSame of %v and %v holds for them alone", a, b)
			}
		}
	}
}

// Promise 7: pairs that are told.
func TestWideSameNumbers(t *testing.T) {
	cases := []struct {
		a, b complex128
		want bool
	}{
		{1 + 2i, 1 + 2i, true},
		{1 + 2i, 1 - 2i, false},
		{1 + 2i, 2 + 2i, false},
		{complex(0, minus0), complex(minus0, 0), true},
		{complex(inf, -inf), complex(inf, -inf), true},
		{complex(inf, 0), complex(-inf, 0), false},
		{complex(nan, 1), complex(nan, 1), false},
		{complex(1, nan), complex(1, nan), false},
	}
	for _, c := range cases {
		if same := impl.WideSame(c.a, c.b); same != c.want {
			t.Errorf("WideSame of %v and %v is %v", c.a, c.b, same)
		}
	}
}

// Promise 8.
func TestSingleUnlikeExchangedAndWide(t *testing.T) {
	list := singleNumbers()
	for _, a := range list {
		for _, b := range list {
			unlike := impl.SingleUnlike(a, b)
			if unlike != (real(a) != real(b) || imag(a) != imag(b)) {
				t.Fatalf("SingleUnlike of %v and %v is %v", a, b, unlike)
			}
			if unlike && !impl.SingleUnlike(b, a) {
				t.Fatalf("SingleUnlike of %v and %v does not hold exchanged", a, b)
			}
			if unlike && impl.WideSame(complex128(a), complex128(b)) {
				t.Fatalf("SingleUnlike of %v and %v holds, and WideSame too", a, b)
			}
		}
	}
}

// Promise 8: pairs that are told.
func TestSingleUnlikeNumbers(t *testing.T) {
	endless := float32(inf)
	cases := []struct {
		a, b complex64
		want bool
	}{
		{1, 1i, true},
		{1 + 2i, 1 + 2i, false},
		{1 + 2i, 1 + 3i, true},
		{1 + 2i, 2 + 2i, true},
		{complex(0, single0), complex(single0, 0), false},
		{complex(endless, 1), complex(endless, 1), false},
		{complex(endless, 1), complex(-endless, 1), true},
		{complex(singleNo, 1), complex(singleNo, 1), true},
		{complex(1, singleNo), complex(1, singleNo), true},
	}
	for _, c := range cases {
		if unlike := impl.SingleUnlike(c.a, c.b); unlike != c.want {
			t.Errorf("SingleUnlike of %v and %v is %v", c.a, c.b, unlike)
		}
	}
}

// Promise 9.
func TestSignedPairSigns(t *testing.T) {
	for _, z := range wideNumbers() {
		plus, minus := impl.SignedPair(z)
		if !wideExactly(plus, z) {
			t.Errorf("the first one of SignedPair of %v is %v", z, plus)
		}
		if _, back := impl.SignedPair(minus); !wideExactly(back, z) {
			t.Errorf("the second one of SignedPair of %v leads back to %v", z, back)
		}
		if wideFinite(z) && plus+minus != 0 {
			t.Errorf("both of SignedPair of %v add up to %v", z, plus+minus)
		}
	}
}

// Promise 9: pairs that are told; the second one has the opposite zeros, which 0 - z has not.
func TestSignedPairNumbers(t *testing.T) {
	cases := []struct{ z, minus complex128 }{
		{1 - 2i, -1 + 2i},
		{complex(0, minus0), complex(minus0, 0)},
		{complex(minus0, 0), complex(0, minus0)},
		{complex(0, 0), complex(minus0, minus0)},
		{complex(inf, -inf), complex(-inf, inf)},
		{complex(nan, 0), complex(nan, minus0)},
	}
	for _, c := range cases {
		plus, minus := impl.SignedPair(c.z)
		if !wideExactly(plus, c.z) || !wideExactly(minus, c.minus) {
			t.Errorf("SignedPair of %v is %v and %v", c.z, plus, minus)
		}
	}
}
