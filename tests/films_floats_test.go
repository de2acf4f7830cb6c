package tests

import (
	"math"
	"math/rand/v2"
	"testing"

	"loop.example/polarisedlight/impl"
)

// eachPositiveFilm calls check with films between two indexes, all of them real, greater than 0, and with parts and bottoms of at most 100; they are the same ones each time.
func eachPositiveFilm(check func(list []impl.Layer, a, b impl.Frac)) {
	chosen := rand.New(rand.NewPCG(8, 77))
	index := func() impl.Frac {
		parts := [2]int{1 + chosen.IntN(100), 1 + chosen.IntN(100)}
		// Whole numbers and small ones are told more often exactly.
		switch chosen.IntN(4) {
		case 0:
			parts[1] = 1
		case 1:
			parts = [2]int{1 + parts[0]%3, 1 + parts[1]%3}
		case 2:
			parts[chosen.IntN(2)] = 100
		}
		n, _ := numbersOver(parts[0], 0, parts[1]).frac()
		return n
	}
	for count := range 3000 {
		var list []impl.Layer
		for range count % 9 {
			list = append(list, impl.Layer{Index: index(), Quarter: chosen.IntN(4)})
		}
		check(list, index(), index())
	}
}

// apart returns the greater one of the differences of both parts of two wide numbers; it is NaN if a part is.
func apart(a, b complex128) float64 {
	return max(math.Abs(real(a)-real(b)), math.Abs(imag(a)-imag(b)))
}

// Promise 77.
func TestFilmWideNearTheExactPart(t *testing.T) {
	toldParts := 0
	eachPositiveFilm(func(list []impl.Layer, a, b impl.Frac) {
		of := filmOf{list, a, b}
		z, ok := impl.FilmWide(list, a, b)
		if !ok {
			t.Errorf("FilmWide of %v fails", of)
		}
		exact := exactReflected(list, a, b)
		x, _ := exact.x.Float64()
		y, _ := exact.y.Float64()
		if !(apart(z, complex(x, y)) <= 1e-9) {
			t.Errorf("FilmWide of %v is %v, and the exact part %v and %v", of, z, exact.x, exact.y)
		}
		if r, rOk := impl.FilmReflected(list, a, b); rOk {
			toldParts++
			if wide, _ := impl.FracWide(r); !(apart(z, wide) <= 1e-9) {
				t.Errorf("FilmWide of %v is %v, and FilmReflected %v", of, z, r)
			}
		}
	})
	if toldParts < 1000 {
		t.Errorf("just %d exact parts were told", toldParts)
	}
}

// Promises 77 and 78: what both are, step by step, for films of all kinds, and where they fail.
func TestFilmWideAndSingleStepByStep(t *testing.T) {
	eachFilm(func(list []impl.Layer, a, b impl.Frac) {
		of := filmOf{list, a, b}
		if z, ok := impl.FilmWide(list, a, b); !ok || !wideExactly(z, wantWide(list, a, b)) {
			t.Errorf("FilmWide of %v is %v, %v, not %v", of, z, ok, wantWide(list, a, b))
		}
		if z, ok := impl.FilmSingle(list, a, b); !ok || !singleExactly(z, wantSingle(list, a, b)) {
			t.Errorf("FilmSingle of %v is %v, %v, not %v", of, z, ok, wantSingle(list, a, b))
		}
	})
	eachPositiveFilm(func(list []impl.Layer, a, b impl.Frac) {
		of := filmOf{list, a, b}
		if z, ok := impl.FilmWide(list, a, b); !ok || !wideExactly(z, wantWide(list, a, b)) {
			t.Errorf("FilmWide of %v is %v, %v, not %v", of, z, ok, wantWide(list, a, b))
		}
		if z, ok := impl.FilmSingle(list, a, b); !ok || !singleExactly(z, wantSingle(list, a, b)) {
			t.Errorf("FilmSingle of %v is %v, %v, not %v", of, z, ok, wantSingle(list, a, b))
		}
	})
	eachNoFilm(func(list []impl.Layer, a, b impl.Frac) {
		of := filmOf{list, a, b}
		if z, ok := impl.FilmWide(list, a, b); ok || !wideExactly(z, 0) {
			t.Errorf("FilmWide of %v is %v, %v", of, z, ok)
		}
		if z, ok := impl.FilmSingle(list, a, b); ok || !singleExactly(z, 0) {
			t.Errorf("FilmSingle of %v is %v, %v", of, z, ok)
		}
	})
}

// Promise 77: wide numbers that are told. Layers from the last one to the first, zeros of both signs, what 1 over 49 loses, bottoms that are 0, and films without a told matrix.
func TestFilmWideNumbers(t *testing.T) {
	const m = partMax
	cases := []struct {
		list []impl.Layer
		a, b impl.Frac
		want complex128
	}{
		{nil, one, frac(2, 0, 1), complex(-1.0/3, 0)},
		{[]impl.Layer{}, frac(2, 0, 1), one, complex(1.0/3, 0)},
		{nil, one, frac(0, 1, 1), -1i},
		{layers([4]int{2, 0, 1, 0}), one, frac(3, 0, 1), complex(-0.5, 0)},
		{layers([4]int{2, 0, 1, 2}), one, frac(3, 0, 1), complex(-0.5, minus0)},
		{layers([4]int{2, 0, 1, 1}), one, one, complex(-0.6, minus0)},
		{layers([4]int{2, 0, 1, 3}), one, one, complex(-0.6, 0)},
		{layers([4]int{2, 0, 1, 1}), one, frac(4, 0, 1), complex(0, 0)},
		{layers([4]int{2, 0, 1, 3}), one, frac(4, 0, 1), complex(minus0, 0)},
		{layers([4]int{2, 0, 1, 1}, [4]int{3, 0, 1, 1}), one, one, complex(5.0/13, minus0)},
		{layers([4]int{3, 0, 1, 1}, [4]int{2, 0, 1, 1}), one, one, complex(-5.0/13, minus0)},
		{layers([4]int{1, 0, 49, 1}), frac(1, 0, 2401), one, complex(1.7000290064572707e-16, 0)},
		{layers([4]int{1, 0, 49, 1}), frac(-1, 0, 2401), one, complex(5.88225257452473e+15, minus0)},
		{nil, one, frac(-1, 0, 1), complex(inf, nan)},
		{nil, frac(-1, 0, 1), one, complex(-inf, nan)},
		{nil, frac(1, 1, 1), frac(-1, -1, 1), complex(inf, inf)},
		{nil, frac(0, 1, 1), frac(0, -1, 1), complex(nan, inf)},
		{layers([4]int{2, 0, 1, 1}), one, frac(-4, 0, 1), complex(nan, -inf)},
		{layers([4]int{2, 0, 1, 3}), one, frac(-4, 0, 1), complex(nan, inf)},
		{toldFromLast, one, frac(m, 0, 1), complex(-0.11111111111111119, 0)},
		{repeated(layers([4]int{m, 0, 1, 1}, [4]int{1, 0, m, 1}), 4), one, one, complex(-1, 0)},
	}
	for _, c := range cases {
		if z, ok := impl.FilmWide(c.list, c.a, c.b); !ok || !wideExactly(z, c.want) {
			t.Errorf("FilmWide of %v is %v, %v, not %v", filmOf{c.list, c.a, c.b}, z, ok, c.want)
		}
	}
}

// Promise 78.
func TestFilmSingleNearTheWidePart(t *testing.T) {
	eachPositiveFilm(func(list []impl.Layer, a, b impl.Frac) {
		z, ok := impl.FilmSingle(list, a, b)
		wide, wideOk := impl.FilmWide(list, a, b)
		if !ok || !wideOk || !(apart(complex128(z), wide) <= 0.001) {
			t.Errorf("FilmSingle of %v is %v, %v, and FilmWide %v, %v", filmOf{list, a, b}, z, ok, wide, wideOk)
		}
	})
}

// Promise 78: single numbers that are told; parts that a single number does not hold are rounded at the start, and what grows beyond it on the way is infinite, though in wide numbers it is not.
func TestFilmSingleNumbers(t *testing.T) {
	const m, over = partMax, 16777217
	endless := float32(inf)
	cases := []struct {
		list []impl.Layer
		a, b impl.Frac
		want complex64
	}{
		{nil, one, frac(2, 0, 1), complex(float32(-1.0)/3, 0)},
		{[]impl.Layer{}, frac(2, 0, 1), one, complex(float32(1.0)/3, 0)},
		{layers([4]int{2, 0, 1, 2}), one, frac(3, 0, 1), complex(-0.5, single0)},
		{layers([4]int{2, 0, 1, 3}), one, frac(4, 0, 1), complex(single0, 0)},
		{layers([4]int{2, 0, 1, 1}, [4]int{3, 0, 1, 1}), one, one, complex(0.38461536, single0)},
		{layers([4]int{3, 0, 1, 1}, [4]int{2, 0, 1, 1}), one, one, complex(-0.38461536, single0)},
		{nil, frac(over, 0, 1), frac(over-1, 0, 1), 0},
		{nil, frac(over, 0, 1), frac(1-over, 0, 1), complex(endless, singleNo)},
		{layers([4]int{1, 0, 10, 1}), frac(1, 0, 100), one, complex(-3.7252907e-08, single0)},
		{layers([4]int{1, 0, 49, 1}), frac(1, 0, 2401), one, 0},
		{layers([4]int{1, 0, 49, 1}), frac(-1, 0, 2401), one, complex(singleNo, -endless)},
		{nil, one, frac(-1, 0, 1), complex(endless, singleNo)},
		{nil, frac(1, 1, 1), frac(-1, -1, 1), complex(endless, endless)},
		{repeated(layers([4]int{m, 0, 1, 1}, [4]int{1, 0, m, 1}), 2), one, one, complex(-1, 0)},
		{repeated(layers([4]int{m, 0, 1, 1}, [4]int{1, 0, m, 1}), 3), one, one, complex(singleNo, singleNo)},
	}
	for _, c := range cases {
		if z, ok := impl.FilmSingle(c.list, c.a, c.b); !ok || !singleExactly(z, c.want) {
			t.Errorf("FilmSingle of %v is %v, %v, not %v", filmOf{c.list, c.a, c.b}, z, ok, c.want)
		}
	}
}
