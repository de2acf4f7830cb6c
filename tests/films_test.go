package tests

import (
	"slices"
	"testing"

	"loop.example/polarisedlight/impl"
)

// filmOf is a film between two indexes.
type filmOf struct {
	list []impl.Layer
	a, b impl.Frac
}

// eachFilm calls check with each film between some pairs of indexes; every film meets each index ahead and each one behind.
func eachFilm(check func(list []impl.Layer, a, b impl.Frac)) {
	for i, list := range films() {
		k := 0
		pairsOfIndexes(func(a, b impl.Frac) {
			// All pairs for all films would take long.
			step := 3
			if len(list) == 1 {
				step = 11
			}
			if k++; (i+k)%step == 0 {
				check(list, a, b)
			}
		})
	}
}

// eachNoFilm calls check with lists that are no films, and with films between indexes of which one or both are none.
func eachNoFilm(check func(list []impl.Layer, a, b impl.Frac)) {
	for _, list := range noFilms() {
		check(list, one, frac(2, 0, 1))
	}
	for _, list := range [][]impl.Layer{nil, layers([4]int{2, 0, 1, 1}), layers([4]int{2, 0, 1, 2}), longFilms()[0]} {
		for _, n := range noIndexes() {
			check(list, n, one)
			check(list, one, n)
			check(list, n, n)
		}
	}
}

// Promise 71.
func TestFilmValidWithALayerMore(t *testing.T) {
	more := layers([4]int{3, -1, 2, 0})
	for _, list := range films() {
		if !impl.FilmValid(list) {
			t.Errorf("FilmValid of %v does not hold", list)
		}
		longer := joinedLayers(list, more)
		if want := len(list) < 8; impl.FilmValid(longer) != want {
			t.Errorf("FilmValid of %v is not %v", longer, want)
		}
		m, ok := impl.FilmMat(list)
		if n, longerOk := impl.FilmMat(longer); len(list) < 8 {
			asTold(t, "with a layer of 0 quarters behind, FilmMat", list, n, longerOk, m, ok)
		}
	}
}

// Promise 71: lists of layers of which one, at each place, is none, and lists with too many.
func TestFilmValidOfNone(t *testing.T) {
	for _, list := range noFilms() {
		if impl.FilmValid(list) {
			t.Errorf("FilmValid of %v holds", list)
		}
	}
}

// Promise 71: films and lists that are told; the thickness is from 0 to 3, and the index any exact fraction but 0.
func TestFilmValidNumbers(t *testing.T) {
	const m = partMax
	cases := []struct {
		list []impl.Layer
		want bool
	}{
		{nil, true},
		{[]impl.Layer{}, true},
		{layers([4]int{1, 0, 1, -1}), false},
		{layers([4]int{1, 0, 1, 0}), true},
		{layers([4]int{1, 0, 1, 1}), true},
		{layers([4]int{1, 0, 1, 2}), true},
		{layers([4]int{1, 0, 1, 3}), true},
		{layers([4]int{1, 0, 1, 4}), false},
		{layers([4]int{-1, 0, 1, 1}), true},
		{layers([4]int{0, 1, 1, 1}), true},
		{layers([4]int{-m, m, m - 1, 3}), true},
		{layers([4]int{40001, 40000, 1, 1}), true},
		{layers([4]int{0, 0, 1, 0}), false},
		{layers([4]int{0, 0, 1, 1}), false},
		{layers([4]int{0, 0, 2, 1}), false},
		{layers([4]int{2, 0, 2, 0}), false},
		{layers([4]int{m + 1, 0, 1, 0}), false},
		{layers([4]int{1, 0, 0, 2}), false},
		{[]impl.Layer{{}}, false},
		{repeated(layers([4]int{1, 0, 1, 0}), 7), true},
		{repeated(layers([4]int{1, 0, 1, 0}), 8), true},
		{repeated(layers([4]int{1, 0, 1, 0}), 9), false},
		{joinedLayers(repeated(layers([4]int{1, 0, 1, 3}), 7), layers([4]int{0, 0, 1, 3})), false},
		{joinedLayers(repeated(layers([4]int{1, 0, 1, 3}), 7), layers([4]int{1, 0, 1, 4})), false},
	}
	for _, c := range cases {
		if impl.FilmValid(c.list) != c.want {
			t.Errorf("FilmValid of %v is not %v", c.list, c.want)
		}
	}
}

// Promise 72.
func TestFilmMatHasTheDeterminantOne(t *testing.T) {
	toldDets := 0
	for _, list := range films() {
		m, ok := impl.FilmMat(list)
		want, wantOk := wantFilmMat(list)
		asTold(t, "FilmMat", list, m, ok, want, wantOk)
		if det, detOk := impl.MatDet(m); ok && detOk {
			toldDets++
			asTold(t, "of FilmMat, MatDet", list, det, detOk, one, true)
		}
	}
	if toldDets < 100 {
		t.Errorf("just %d determinants were told", toldDets)
	}
	for _, list := range noFilms() {
		m, ok := impl.FilmMat(list)
		asTold(t, "FilmMat", list, m, ok, impl.Mat{}, false)
	}
}

// Promise 72: matrices told in numbers; the first layer is the first one in the product, and only 1 and 3 quarters ask for 1 over the index.
func TestFilmMatNumbers(t *testing.T) {
	const m = partMax
	cases := []struct {
		list []impl.Layer
		want impl.Mat
	}{
		{nil, unitMat},
		{[]impl.Layer{}, unitMat},
		{layers([4]int{2, 0, 1, 0}), unitMat},
		{layers([4]int{2, 0, 1, 1}), mat(zero, frac(0, 1, 2), frac(0, 2, 1), zero)},
		{layers([4]int{2, 0, 1, 2}), minusUnitMat},
		{layers([4]int{2, 0, 1, 3}), mat(zero, frac(0, -1, 2), frac(0, -2, 1), zero)},
		{layers([4]int{-2, 0, 1, 1}), mat(zero, frac(0, -1, 2), frac(0, -2, 1), zero)},
		{layers([4]int{2, 0, 3, 1}), mat(zero, frac(0, 3, 2), frac(0, 2, 3), zero)},
		{layers([4]int{0, 1, 1, 1}), mat(zero, one, frac(-1, 0, 1), zero)},
		{layers([4]int{0, -1, 1, 1}), mat(zero, frac(-1, 0, 1), one, zero)},
		{layers([4]int{1, 1, 1, 1}), mat(zero, frac(1, 1, 2), frac(-1, 1, 1), zero)},
		{layers([4]int{1, -1, 1, 1}), mat(zero, frac(-1, 1, 2), frac(1, 1, 1), zero)},
		{layers([4]int{-1, 1, 1, 3}), mat(zero, frac(-1, 1, 2), frac(1, 1, 1), zero)},
		{layers([4]int{m, 0, 1, 1}), mat(zero, frac(0, 1, m), frac(0, m, 1), zero)},
		{layers([4]int{2, 0, 1, 1}, [4]int{3, 0, 1, 1}), mat(frac(-3, 0, 2), zero, zero, frac(-2, 0, 3))},
		{layers([4]int{3, 0, 1, 1}, [4]int{2, 0, 1, 1}), mat(frac(-2, 0, 3), zero, zero, frac(-3, 0, 2))},
		{layers([4]int{2, 0, 1, 1}, [4]int{3, 0, 1, 3}), mat(frac(3, 0, 2), zero, zero, frac(2, 0, 3))},
		{layers([4]int{2, 0, 1, 1}, [4]int{2, 0, 1, 1}), minusUnitMat},
		{layers([4]int{2, 0, 1, 1}, [4]int{7, 0, 1, 0}, [4]int{2, 0, 1, 3}), unitMat},
		{layers([4]int{1, 1, 1, 1}, [4]int{2, 0, 1, 1}), mat(frac(-1, 1, 1), zero, zero, frac(-1, -1, 2))},
		{layers([4]int{2, 0, 1, 1}, [4]int{3, 0, 1, 1}, [4]int{5, 0, 1, 1}), mat(zero, frac(0, -3, 10), frac(0, -10, 3), zero)},
		{repeated(layers([4]int{2, 0, 1, 1}, [4]int{1, 0, 1, 1}), 4), mat(frac(1, 0, 16), zero, zero, frac(16, 0, 1))},
		{pileOf(0, noInverse), unitMat},
		{pileOf(2, noInverse), minusUnitMat},
		{toldFromFirst, mat(zero, frac(0, -1, 50000), frac(0, -50000, 1), zero)},
		{layers([4]int{m, 0, 1, 1}, [4]int{m, 0, 1, 1}), minusUnitMat},
	}
	for _, c := range cases {
		m, ok := impl.FilmMat(c.list)
		asTold(t, "FilmMat", c.list, m, ok, c.want, true)
	}
}

// Promise 72: films with a layer without a told matrix, or with a product from the first one on that is none, though the product of all would be told.
func TestFilmMatFails(t *testing.T) {
	const m = partMax
	for _, list := range [][]impl.Layer{
		pileOf(1, noInverse), pileOf(3, noInverse), pileOf(1, noInverse, noInverse), pileOf(3, noInverse, one), joinedLayers(layers([4]int{1, 0, 1, 0}), pileOf(1, noInverse, noInverse)),
		toldFromLast, layers([4]int{m, 0, 1, 1}, [4]int{1, 0, m, 1}), layers([4]int{m, 0, 1, 1}, [4]int{1, 0, m, 3}, [4]int{1, 0, m, 1}, [4]int{m, 0, 1, 1}),
		layers([4]int{50000, 0, 1, 1}, [4]int{1, 0, 40001, 1}), layers([4]int{1, 0, 40001, 1}, [4]int{50000, 0, 1, 1}),
	} {
		got, ok := impl.FilmMat(list)
		asTold(t, "FilmMat", list, got, ok, impl.Mat{}, false)
	}
}

// Promise 73.
func TestFilmReflectedWithHalfAWaveBehind(t *testing.T) {
	half := layers([4]int{7, -2, 3, 2})
	toldParts := 0
	eachFilm(func(list []impl.Layer, a, b impl.Frac) {
		of := filmOf{list, a, b}
		r, ok := impl.FilmReflected(list, a, b)
		want, wantOk := wantReflected(list, a, b)
		asTold(t, "FilmReflected", of, r, ok, want, wantOk)
		if !ok {
			return
		}
		toldParts++
		exact, _ := exactReflected(list, a, b).frac()
		asTold(t, "FilmReflected", of, r, ok, exact, true)
		if len(list) < 8 {
			other, otherOk := impl.FilmReflected(joinedLayers(list, half), a, b)
			asTold(t, "with half a wave behind, FilmReflected", of, other, otherOk, r, true)
		}
	})
	if toldParts < 5000 {
		t.Errorf("just %d reflected parts were told", toldParts)
	}
	eachNoFilm(func(list []impl.Layer, a, b impl.Frac) {
		r, ok := impl.FilmReflected(list, a, b)
		asTold(t, "FilmReflected", filmOf{list, a, b}, r, ok, impl.Frac{}, false)
	})
}

// Promise 73: reflected parts told in numbers.
func TestFilmReflectedNumbers(t *testing.T) {
	const m = partMax
	cases := []struct {
		list       []impl.Layer
		a, b, want impl.Frac
	}{
		{nil, one, frac(2, 0, 1), frac(-1, 0, 3)},
		{[]impl.Layer{}, frac(2, 0, 1), one, frac(1, 0, 3)},
		{nil, one, one, zero},
		{nil, frac(1, 2, 3), frac(1, 2, 3), zero},
		{nil, one, frac(0, 1, 1), frac(0, -1, 1)},
		{nil, one, frac(0, -1, 1), frac(0, 1, 1)},
		{nil, frac(0, 1, 1), one, frac(0, 1, 1)},
		{nil, frac(2, 0, 1), frac(-1, 0, 1), frac(3, 0, 1)},
		{nil, frac(m/2, 0, 1), frac(m/2, 0, 1), zero},
		{nil, frac(1, 0, m), frac(1, 0, m), zero},
		{layers([4]int{2, 0, 1, 1}), one, frac(4, 0, 1), zero},
		{layers([4]int{2, 0, 1, 1}), one, one, frac(-3, 0, 5)},
		{layers([4]int{2, 0, 1, 3}), one, one, frac(-3, 0, 5)},
		{layers([4]int{2, 0, 1, 2}), one, frac(3, 0, 1), frac(-1, 0, 2)},
		{layers([4]int{5, 0, 1, 0}), one, frac(3, 0, 1), frac(-1, 0, 2)},
		{layers([4]int{2, 0, 1, 1}, [4]int{3, 0, 1, 1}), one, one, frac(5, 0, 13)},
		{layers([4]int{3, 0, 1, 1}, [4]int{2, 0, 1, 1}), one, one, frac(-5, 0, 13)},
		{layers([4]int{1, 1, 1, 1}), one, one, frac(-3, -4, 5)},
		{layers([4]int{1, -1, 1, 1}), one, one, frac(-3, 4, 5)},
		{pileOf(2, noInverse), one, frac(3, 0, 1), frac(-1, 0, 2)},
		{toldFromFirst, one, frac(m, 0, 1), frac(-1, 0, 9)},
	}
	for _, c := range cases {
		r, ok := impl.FilmReflected(c.list, c.a, c.b)
		asTold(t, "FilmReflected", filmOf{c.list, c.a, c.b}, r, ok, c.want, true)
	}
}

// Promises 73 to 75: bottoms that are 0, of which neither part and no power is told.
func TestFilmPartsOverZero(t *testing.T) {
	for _, c := range []filmOf{
		{nil, one, frac(-1, 0, 1)},
		{nil, frac(-1, 2, 3), frac(1, -2, 3)},
		{layers([4]int{2, 0, 1, 2}), frac(3, 0, 1), frac(-3, 0, 1)},
		{layers([4]int{2, 0, 1, 1}), one, frac(-4, 0, 1)},
		{layers([4]int{2, 0, 1, 3}), frac(2, 0, 1), frac(-2, 0, 1)},
		{layers([4]int{0, 1, 1, 1}), one, one},
	} {
		r, ok := impl.FilmReflected(c.list, c.a, c.b)
		asTold(t, "FilmReflected", c, r, ok, impl.Frac{}, false)
		p, ok := impl.FilmPassing(c.list, c.a, c.b)
		asTold(t, "FilmPassing", c, p, ok, impl.Frac{}, false)
		first, second, ok := impl.FilmPowers(c.list, c.a, c.b)
		asTold(t, "FilmPowers", c, jones(first, second), ok, impl.Jones{}, false)
	}
}

// Promises 73 and 74: fractions on the way that are none, though what comes of them would be an exact fraction: a layer's matrix, a product of the first layers, B, a times B, C, the top and the bottom of the reflected part, the top of the passing part, 1 over the bottom.
func TestFilmPartsOnTheWay(t *testing.T) {
	const m = partMax
	cases := []struct {
		filmOf
		reflected, passing bool
	}{
		{filmOf{pileOf(1, noInverse, noInverse), one, one}, false, false},
		{filmOf{pileOf(3, noInverse, noInverse), one, frac(2, 0, 1)}, false, false},
		{filmOf{toldFromLast, one, frac(m, 0, 1)}, false, false},
		{filmOf{layers([4]int{1, 0, 40000, 1}), frac(1, 0, 1600000000), frac(50001, 0, 1)}, false, false},
		{filmOf{layers([4]int{40000, 0, 1, 1}), frac(50001, 0, 1), frac(1600000000, 0, 1)}, false, false},
		{filmOf{layers([4]int{50000, 0, 1, 1}, [4]int{1, 0, 1, 1}), frac(m/2, 0, 1), frac(40001, 0, 1)}, false, false},
		{filmOf{nil, frac(m/2, 0, 1), frac(-m, 0, 1)}, false, true},
		{filmOf{layers([4]int{1, 0, 1, 2}), frac(m/2, 0, 1), frac(-m, 0, 1)}, false, true},
		{filmOf{nil, frac(m/2, 0, 1), frac(m, 0, 1)}, false, false},
		{filmOf{nil, frac(1500000000, 0, 1), frac(500000000, 0, 1)}, true, false},
		{filmOf{nil, frac(1500000000, 0, 1), frac(-1000000000, 0, 1)}, false, false},
		{filmOf{nil, noInverse, noInverse}, false, false},
	}
	for _, c := range cases {
		reflected, wouldReflect := exactReflected(c.list, c.a, c.b).frac()
		passing, wouldPass := exactPassing(c.list, c.a, c.b).frac()
		if !wouldReflect || !wouldPass {
			t.Errorf("the parts of %v would not be told", c.filmOf)
		}
		if !c.reflected {
			reflected = impl.Frac{}
		}
		if !c.passing {
			passing = impl.Frac{}
		}
		r, ok := impl.FilmReflected(c.list, c.a, c.b)
		asTold(t, "FilmReflected", c.filmOf, r, ok, reflected, c.reflected)
		p, ok := impl.FilmPassing(c.list, c.a, c.b)
		asTold(t, "FilmPassing", c.filmOf, p, ok, passing, c.passing)
	}
}

// Promise 74.
func TestFilmPassingTheOtherWay(t *testing.T) {
	compared, onlyPassing := 0, 0
	eachFilm(func(list []impl.Layer, a, b impl.Frac) {
		of := filmOf{list, a, b}
		p, ok := impl.FilmPassing(list, a, b)
		want, wantOk := wantPassing(list, a, b)
		asTold(t, "FilmPassing", of, p, ok, want, wantOk)
		if !ok {
			return
		}
		if _, reflectedOk := impl.FilmReflected(list, a, b); !reflectedOk {
			onlyPassing++
		}
		back, backOk := impl.FilmBack(list)
		other, otherOk := impl.FilmPassing(back, b, a)
		left, leftOk := impl.FracTimes(other, a)
		right, rightOk := impl.FracTimes(p, b)
		if backOk && otherOk && leftOk && rightOk {
			compared++
			asTold(t, "the other way, FilmPassing times a", of, left, leftOk, right, rightOk)
		}
	})
	if compared < 5000 || onlyPassing == 0 {
		t.Errorf("just %d passing parts were compared, and %d were told without the reflected one", compared, onlyPassing)
	}
	eachNoFilm(func(list []impl.Layer, a, b impl.Frac) {
		p, ok := impl.FilmPassing(list, a, b)
		asTold(t, "FilmPassing", filmOf{list, a, b}, p, ok, impl.Frac{}, false)
	})
}

// Promise 74: passing parts told in numbers.
func TestFilmPassingNumbers(t *testing.T) {
	const m = partMax
	cases := []struct {
		list       []impl.Layer
		a, b, want impl.Frac
	}{
		{nil, one, frac(2, 0, 1), frac(2, 0, 3)},
		{[]impl.Layer{}, frac(2, 0, 1), one, frac(4, 0, 3)},
		{nil, one, one, one},
		{nil, one, frac(0, 1, 1), frac(1, -1, 1)},
		{nil, frac(0, 1, 1), one, frac(1, 1, 1)},
		{nil, frac(2, 0, 1), frac(-1, 0, 1), frac(4, 0, 1)},
		{nil, frac(1, 0, m), frac(1, 0, m), one},
		{nil, frac(m/2, 0, 1), frac(1-m/2, 0, 1), frac(m, 0, 1)},
		{layers([4]int{2, 0, 1, 1}), one, frac(4, 0, 1), frac(0, -1, 2)},
		{layers([4]int{2, 0, 1, 3}), one, frac(4, 0, 1), frac(0, 1, 2)},
		{layers([4]int{2, 0, 1, 2}), one, frac(3, 0, 1), frac(-1, 0, 2)},
		{layers([4]int{2, 0, 1, 0}), one, frac(3, 0, 1), frac(1, 0, 2)},
		{layers([4]int{2, 0, 1, 1}, [4]int{3, 0, 1, 1}), one, one, frac(-12, 0, 13)},
		{layers([4]int{2, 0, 1, 1}, [4]int{3, 0, 1, 1}), one, frac(9, 0, 4), frac(-2, 0, 3)},
		{layers([4]int{3, 0, 1, 1}, [4]int{2, 0, 1, 1}), one, frac(9, 0, 4), frac(-48, 0, 97)},
		{layers([4]int{1, 1, 1, 1}), one, one, frac(-2, -6, 5)},
	}
	for _, c := range cases {
		p, ok := impl.FilmPassing(c.list, c.a, c.b)
		asTold(t, "FilmPassing", filmOf{c.list, c.a, c.b}, p, ok, c.want, true)
	}
}

// allReal reports whether both indexes and those of all layers are real.
func allReal(list []impl.Layer, a, b impl.Frac) bool {
	return a.Im == 0 && b.Im == 0 && !slices.ContainsFunc(list, func(l impl.Layer) bool { return l.Index.Im != 0 })
}

// Promise 75.
func TestFilmPowersOfRealIndexes(t *testing.T) {
	compared := 0
	eachFilm(func(list []impl.Layer, a, b impl.Frac) {
		of := filmOf{list, a, b}
		first, second, ok := impl.FilmPowers(list, a, b)
		want, wantOk := wantPowers(list, a, b)
		asTold(t, "FilmPowers", of, jones(first, second), ok, want, wantOk)
		if sum, sumOk := impl.FracAdd(first, second); ok && sumOk && allReal(list, a, b) {
			compared++
			asTold(t, "the sum of FilmPowers", of, sum, sumOk, one, true)
		}
	})
	if compared < 500 {
		t.Errorf("just %d powers were compared", compared)
	}
	eachNoFilm(func(list []impl.Layer, a, b impl.Frac) {
		first, second, ok := impl.FilmPowers(list, a, b)
		asTold(t, "FilmPowers", filmOf{list, a, b}, jones(first, second), ok, impl.Jones{}, false)
	})
}

// Promise 75: powers told in numbers, also behind indexes without a real part, and with parts that are in lower terms alone.
func TestFilmPowersNumbers(t *testing.T) {
	cases := []struct {
		list                []impl.Layer
		a, b, first, second impl.Frac
	}{
		{nil, one, frac(2, 0, 1), frac(1, 0, 9), frac(8, 0, 9)},
		{[]impl.Layer{}, frac(2, 0, 1), one, frac(1, 0, 9), frac(8, 0, 9)},
		{nil, frac(2, 0, 1), frac(-1, 0, 1), frac(9, 0, 1), frac(-8, 0, 1)},
		{nil, frac(-1, 0, 1), frac(2, 0, 1), frac(9, 0, 1), frac(-8, 0, 1)},
		{layers([4]int{2, 0, 1, 1}), one, frac(4, 0, 1), zero, one},
		{layers([4]int{2, 0, 1, 2}), one, frac(3, 0, 1), frac(1, 0, 4), frac(3, 0, 4)},
		{layers([4]int{2, 0, 1, 1}), one, one, frac(9, 0, 25), frac(16, 0, 25)},
		{layers([4]int{2, 0, 1, 3}), one, one, frac(9, 0, 25), frac(16, 0, 25)},
		{nil, one, frac(0, 1, 1), one, zero},
		{nil, one, frac(1, 1, 1), frac(1, 0, 5), frac(4, 0, 5)},
		{nil, one, frac(2, -1, 1), frac(1, 0, 5), frac(4, 0, 5)},
		{nil, frac(1, 1, 1), frac(2, 0, 1), frac(1, 0, 5), frac(8, 0, 5)},
		{nil, frac(2, 1, 4), frac(2, -1, 4), frac(1, 0, 4), frac(5, 0, 4)},
		{layers([4]int{1, 1, 1, 1}), one, one, one, frac(8, 0, 5)},
		{nil, frac(10000, 0, 1), frac(10000, 0, 1), zero, one},
	}
	for _, c := range cases {
		first, second, ok := impl.FilmPowers(c.list, c.a, c.b)
		asTold(t, "FilmPowers", filmOf{c.list, c.a, c.b}, jones(first, second), ok, jones(c.first, c.second), true)
	}
}

// Promise 75: an index ahead without a real part, also where both parts are told.
func TestFilmPowersWithoutARealPart(t *testing.T) {
	for _, c := range []filmOf{
		{nil, frac(0, 1, 1), one}, {nil, frac(0, -3, 2), frac(0, 1, 1)}, {nil, frac(0, 1, 2), frac(0, 1, 2)}, {layers([4]int{2, 0, 1, 1}), frac(0, 1, 1), frac(4, 0, 1)},
	} {
		_, reflectedOk := impl.FilmReflected(c.list, c.a, c.b)
		_, passingOk := impl.FilmPassing(c.list, c.a, c.b)
		if !reflectedOk || !passingOk {
			t.Errorf("the parts of %v are not told", c)
		}
		first, second, ok := impl.FilmPowers(c.list, c.a, c.b)
		asTold(t, "FilmPowers", c, jones(first, second), ok, impl.Jones{}, false)
	}
}

// Promise 75: what is none on the way though both powers would be told: a part, the power of the passing part, its product with the real part behind; and powers one of which, or both, would be none.
func TestFilmPowersOnTheWay(t *testing.T) {
	const m = partMax
	cases := []struct {
		filmOf
		first, second bool
	}{
		{filmOf{nil, frac(m/2, 0, 1), frac(-m, 0, 1)}, true, true},
		{filmOf{nil, frac(1500000000, 0, 1), frac(500000000, 0, 1)}, true, true},
		{filmOf{nil, frac(25000, 0, 1), frac(19001, 0, 1)}, true, true},
		{filmOf{nil, frac(10000, 0, 1), frac(10001, 0, 1)}, true, true},
		{filmOf{nil, frac(25001, 0, 1), frac(25000, 0, 1)}, false, false},
		{filmOf{nil, frac(1, 20011, 20011), one}, true, false},
		{filmOf{nil, frac(50001, 1, 1), frac(0, -1, 1)}, false, true},
	}
	for _, c := range cases {
		x, y := exactPowers(c.list, c.a, c.b)
		_, wouldReflect := x.frac()
		_, wouldPass := y.frac()
		if wouldReflect != c.first || wouldPass != c.second {
			t.Errorf("the powers of %v would be told: %v, %v", c.filmOf, wouldReflect, wouldPass)
		}
		first, second, ok := impl.FilmPowers(c.list, c.a, c.b)
		asTold(t, "FilmPowers", c.filmOf, jones(first, second), ok, impl.Jones{}, false)
	}
}

// Promise 76.
func TestFilmBackLeadsBack(t *testing.T) {
	compared := 0
	for _, list := range films() {
		back, ok := impl.FilmBack(list)
		want := slices.Clone(list)
		slices.Reverse(want)
		if !ok || !slices.Equal(back, want) {
			t.Errorf("FilmBack of %v is %v, %v", list, back, ok)
		}
		if again, againOk := impl.FilmBack(back); !againOk || !slices.Equal(again, list) {
			t.Errorf("FilmBack of %v leads back to %v, %v", list, again, againOk)
		}
		m, mOk := impl.FilmMat(list)
		if n, nOk := impl.FilmMat(back); mOk && nOk {
			compared++
			asTold(t, "the other way, FilmMat", list, n, nOk, mat(m.M[3], m.M[1], m.M[2], m.M[0]), true)
		}
	}
	if compared < 100 {
		t.Errorf("just %d matrices were compared", compared)
	}
	for _, list := range noFilms() {
		if back, ok := impl.FilmBack(list); ok || len(back) != 0 {
			t.Errorf("FilmBack of %v is %v, %v", list, back, ok)
		}
	}
}

// Promise 76: films told in layers.
func TestFilmBackNumbers(t *testing.T) {
	cases := []struct{ list, want []impl.Layer }{
		{nil, nil},
		{[]impl.Layer{}, nil},
		{layers([4]int{2, 0, 1, 1}), layers([4]int{2, 0, 1, 1})},
		{layers([4]int{2, 0, 1, 1}, [4]int{1, -1, 3, 0}), layers([4]int{1, -1, 3, 0}, [4]int{2, 0, 1, 1})},
		{layers([4]int{1, 0, 1, 1}, [4]int{2, 0, 1, 2}, [4]int{3, 0, 1, 3}), layers([4]int{3, 0, 1, 3}, [4]int{2, 0, 1, 2}, [4]int{1, 0, 1, 1})},
		{toldFromFirst, toldFromLast},
	}
	for _, c := range cases {
		if back, ok := impl.FilmBack(c.list); !ok || !slices.Equal(back, c.want) {
			t.Errorf("FilmBack of %v is %v, %v, not %v", c.list, back, ok, c.want)
		}
	}
}

// Promise 76: a film that is a piece of another one, a list that the caller changes later, and results that are changed or grown, leave all others as they are.
func TestFilmBackIsNewMemory(t *testing.T) {
	all := slices.Clone(longFilms()[len(longFilms())-9])
	whole := slices.Clone(all)
	if len(all) != 8 {
		t.Fatalf("the film %v has not 8 layers", all)
	}
	for from := range all {
		for to := from; to <= len(all); to++ {
			list := all[from:to]
			want := slices.Clone(list)
			slices.Reverse(want)
			back, _ := impl.FilmBack(list)
			again, _ := impl.FilmBack(list)
			other, _ := impl.FilmBack(back)
			_ = append(back, impl.Layer{Quarter: 9})
			_ = append(again, impl.Layer{Quarter: 9})
			if !slices.Equal(all, whole) || !slices.Equal(back, want) {
				t.Fatalf("FilmBack of the layers %d to %d of %v is %v, and leaves %v", from, to, whole, back, all)
			}
			for i := range back {
				again[i], other[i] = impl.Layer{}, impl.Layer{}
				list[i] = impl.Layer{Quarter: -1}
			}
			if !slices.Equal(back, want) {
				t.Fatalf("FilmBack of the layers %d to %d of %v becomes %v", from, to, whole, back)
			}
			copy(all, whole)
		}
	}
}

// Promises 71 to 79: a film that is a piece of another one is as if it stood alone, and no function changes the list or what stands behind it; with another list in the same memory, the result is another one.
func TestFilmsOfSharedMemory(t *testing.T) {
	all := layers([4]int{2, 0, 1, 1}, [4]int{3, 0, 1, 1}, [4]int{2, 0, 1, 1}, [4]int{3, 0, 1, 1}, [4]int{0, 0, 1, 1}, [4]int{1, 0, 1, 5})
	whole := slices.Clone(all)
	first, second, shifted := all[:2], all[2:4], all[1:3]
	if !impl.FilmValid(first) || !impl.FilmValid(all[:4]) || impl.FilmValid(all[:5]) || impl.FilmValid(all[5:]) {
		t.Errorf("FilmValid of pieces of %v is wrong", all)
	}
	if !impl.FilmSame(first, second) || !impl.FilmSame(first, first) || impl.FilmSame(first, shifted) || impl.FilmSame(first, all[:5]) {
		t.Errorf("FilmSame of pieces of %v is wrong", all)
	}
	for _, list := range [][]impl.Layer{first, second} {
		r, ok := impl.FilmReflected(list, one, one)
		asTold(t, "FilmReflected", list, r, ok, frac(5, 0, 13), true)
		p, ok := impl.FilmPassing(list, one, one)
		asTold(t, "FilmPassing", list, p, ok, frac(-12, 0, 13), true)
		x, y, ok := impl.FilmPowers(list, one, one)
		asTold(t, "FilmPowers", list, jones(x, y), ok, jones(frac(25, 0, 169), frac(144, 0, 169)), true)
		z, ok := impl.FilmWide(list, one, one)
		asTold(t, "FilmWide", list, z, ok, wantWide(whole[:2], one, one), true)
		s, ok := impl.FilmSingle(list, one, one)
		asTold(t, "FilmSingle", list, s, ok, wantSingle(whole[:2], one, one), true)
	}
	m, ok := impl.FilmMat(first)
	if !slices.Equal(all, whole) {
		t.Fatalf("the layers %v have become %v", whole, all)
	}
	all[0].Index = one
	asTold(t, "FilmMat", whole[:2], m, ok, mat(frac(-3, 0, 2), zero, zero, frac(-2, 0, 3)), true)
	n, ok := impl.FilmMat(first)
	asTold(t, "FilmMat", first, n, ok, mat(frac(-3, 0, 1), zero, zero, frac(-1, 0, 3)), true)
	if impl.FilmSame(first, second) {
		t.Errorf("FilmSame of %v and %v holds", first, second)
	}
}

// Promise 79.
func TestFilmSameExchangedAndReflects(t *testing.T) {
	list := films()
	two := frac(2, 0, 1)
	same := 0
	for _, a := range list {
		m, mOk := wantFilmMat(a)
		if holds := impl.FilmSame(a, a); holds != mOk {
			t.Errorf("FilmSame of %v and itself is %v", a, holds)
		}
		for _, b := range list {
			n, nOk := wantFilmMat(b)
			holds := impl.FilmSame(a, b)
			if want := mOk && nOk && wantMatAlike(m, n); holds != want {
				t.Errorf("FilmSame of %v and %v is not %v", a, b, want)
			}
			if !holds {
				continue
			}
			same++
			if !impl.FilmSame(b, a) {
				t.Errorf("FilmSame of %v and %v does not hold exchanged", a, b)
			}
			r, ok := impl.FilmReflected(a, one, two)
			if other, otherOk := impl.FilmReflected(b, one, two); ok && otherOk {
				asTold(t, "FilmReflected", [2][]impl.Layer{a, b}, r, ok, other, otherOk)
			}
		}
	}
	if same < 500 {
		t.Errorf("just %d films were the same", same)
	}
}

// Promise 79: lists that are no films.
func TestFilmSameOfNone(t *testing.T) {
	for _, a := range noFilms() {
		for _, b := range [][]impl.Layer{nil, layers([4]int{2, 0, 1, 1}), a} {
			if impl.FilmSame(a, b) || impl.FilmSame(b, a) {
				t.Errorf("FilmSame of %v and %v holds", a, b)
			}
		}
	}
}

// Promise 79: films that are told.
func TestFilmSameNumbers(t *testing.T) {
	cases := []struct {
		a, b []impl.Layer
		want bool
	}{
		{nil, nil, true},
		{nil, []impl.Layer{}, true},
		{nil, layers([4]int{5, 0, 1, 0}), true},
		{nil, layers([4]int{5, 0, 1, 2}), true},
		{nil, layers([4]int{1, 0, 1, 1}), false},
		{nil, layers([4]int{2, 0, 1, 1}, [4]int{2, 0, 1, 1}), true},
		{nil, layers([4]int{2, 0, 1, 1}, [4]int{3, 0, 1, 1}), false},
		{nil, toldFromLast, false},
		{nil, pileOf(1, noInverse, noInverse), false},
		{nil, pileOf(2, noInverse, noInverse), true},
		{layers([4]int{2, 0, 1, 1}), layers([4]int{2, 0, 1, 3}), true},
		{layers([4]int{2, 0, 1, 1}), layers([4]int{-2, 0, 1, 1}), true},
		{layers([4]int{2, 0, 1, 1}), layers([4]int{3, 0, 1, 1}), false},
		{layers([4]int{1, 1, 1, 1}), layers([4]int{1, -1, 1, 1}), false},
		{layers([4]int{1, 1, 1, 1}), layers([4]int{-1, -1, 1, 3}), true},
		{layers([4]int{2, 0, 1, 1}, [4]int{3, 0, 1, 1}), layers([4]int{3, 0, 1, 1}, [4]int{2, 0, 1, 1}), false},
		{layers([4]int{2, 0, 1, 1}, [4]int{3, 0, 1, 1}), layers([4]int{4, 0, 1, 3}, [4]int{6, 0, 1, 1}), true},
		{toldFromFirst, layers([4]int{50000, 0, 1, 1}), true},
		{toldFromLast, toldFromLast, false},
		{pileOf(1, noInverse), pileOf(1, noInverse), false},
	}
	for _, c := range cases {
		if impl.FilmSame(c.a, c.b) != c.want {
			t.Errorf("FilmSame of %v and %v is not %v", c.a, c.b, c.want)
		}
	}
}
