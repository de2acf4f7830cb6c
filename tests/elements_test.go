package tests

import (
	"testing"

	"loop.example/polarisedlight/impl"
)

// Promise 41.
func TestMatValidTimesOneAndUnit(t *testing.T) {
	unit, unitOk := impl.MatRotator(1, 0)
	asTold(t, "MatRotator", [2]int{1, 0}, unit, unitOk, unitMat, true)
	for _, a := range validMats() {
		if !impl.MatValid(a) {
			t.Errorf("MatValid of %v does not hold", a)
		}
		same, ok := impl.MatScale(a, one)
		asTold(t, "by 1, MatScale", a, same, ok, a, true)
		left, leftOk := impl.MatTimes(unit, a)
		asTold(t, "behind the rotator of 1 and 0, MatTimes", a, left, leftOk, a, true)
		right, rightOk := impl.MatTimes(a, unit)
		asTold(t, "ahead of the rotator of 1 and 0, MatTimes", a, right, rightOk, a, true)
	}
}

// Promise 41: one of the four fractions is none, at each place.
func TestMatValidOfNone(t *testing.T) {
	for _, a := range noneMats() {
		if impl.MatValid(a) {
			t.Errorf("MatValid of %v holds", a)
		}
	}
}

// Promise 42.
func TestMatTimesAdjointAndDet(t *testing.T) {
	eachMatPair(func(a, b impl.Mat) {
		pair := [2]impl.Mat{a, b}
		product, ok := impl.MatTimes(a, b)
		want, wantOk := wantMatTimes(a, b)
		asTold(t, "MatTimes", pair, product, ok, want, wantOk)
		if !ok {
			return
		}
		adjointA, _ := impl.MatAdjoint(a)
		adjointB, _ := impl.MatAdjoint(b)
		adjoint, _ := impl.MatAdjoint(product)
		if other, otherOk := impl.MatTimes(adjointB, adjointA); otherOk && other != adjoint {
			t.Errorf("the adjoint of the product of %v is %v, not %v", pair, adjoint, other)
		}
		detA, okA := impl.MatDet(a)
		detB, okB := impl.MatDet(b)
		det, detOk := impl.MatDet(product)
		if dets, detsOk := impl.FracTimes(detA, detB); okA && okB && detOk && detsOk && det != dets {
			t.Errorf("MatDet of the product of %v is %v, not %v", pair, det, dets)
		}
	})
	eachNoneMatPair(func(a, b impl.Mat) {
		product, ok := impl.MatTimes(a, b)
		asTold(t, "MatTimes", [2]impl.Mat{a, b}, product, ok, impl.Mat{}, false)
	})
}

// Promise 42: products told in numbers; of the ones that are none, the first ones would be 0 or 1 at the place that fails.
func TestMatTimesNumbers(t *testing.T) {
	const m = partMax
	cases := []struct{ a, b, want impl.Mat }{
		{noMat, mat(frac(m, 0, 1), frac(0, m, 1), frac(-m, m, 1), frac(1, 0, m)), noMat},
		{matOver([8]int{1, 0, 2, 0, 3, 0, 4, 0}, 1), matOver([8]int{5, 0, 6, 0, 7, 0, 8, 0}, 1), matOver([8]int{19, 0, 22, 0, 43, 0, 50, 0}, 1)},
		{matOver([8]int{5, 0, 6, 0, 7, 0, 8, 0}, 1), matOver([8]int{1, 0, 2, 0, 3, 0, 4, 0}, 1), matOver([8]int{23, 0, 34, 0, 31, 0, 46, 0}, 1)},
		{matOver([8]int{0, 1, 1, 0, 0, 0, 1, 1}, 2), matOver([8]int{0, 1, 0, 0, 1, 0, 0, -1}, 3), matOver([8]int{0, 0, 0, -1, 1, 1, 1, -1}, 6)},
		{mat(frac(m, 0, 1), zero, zero, frac(1, 0, m)), mat(frac(1, 0, m), frac(1, 0, 1), zero, frac(0, m, 1)), mat(one, frac(m, 0, 1), zero, frac(0, 1, 1))},
		{matOver([8]int{50000, 0, 50000, 0, 0, 0, 0, 0}, 1), matOver([8]int{50000, 0, 0, 0, -50000, 0, 0, 0}, 1), impl.Mat{}},
		{matOver([8]int{0, 0, 0, 0, 50000, 0, 50000, 0}, 1), matOver([8]int{0, 0, 50000, 0, 0, 0, -50000, 0}, 1), impl.Mat{}},
		{finelyTurned, wantAdjoint(finelyTurned), impl.Mat{}},
		{matOver([8]int{m, 0, m, 0, 0, 0, 0, 0}, 1), matOver([8]int{1, 0, 0, 0, 1, 0, 0, 0}, 1), impl.Mat{}},
		{matOver([8]int{m, 0, m, 0, 0, 0, 0, 0}, 1), matOver([8]int{0, 0, 1, 0, 0, 0, 1, 0}, 1), impl.Mat{}},
		{matOver([8]int{0, 0, 0, 0, m, 0, m, 0}, 1), matOver([8]int{1, 0, 0, 0, 1, 0, 0, 0}, 1), impl.Mat{}},
		{matOver([8]int{0, 0, 0, 0, m, 0, m, 0}, 1), matOver([8]int{0, 0, 1, 0, 0, 0, 1, 0}, 1), impl.Mat{}},
	}
	for _, c := range cases {
		product, ok := impl.MatTimes(c.a, c.b)
		asTold(t, "MatTimes", [2]impl.Mat{c.a, c.b}, product, ok, c.want, c.want != impl.Mat{})
	}
}

// Promise 43.
func TestMatAdjointLeadsBack(t *testing.T) {
	for _, a := range validMats() {
		b, ok := impl.MatAdjoint(a)
		asTold(t, "MatAdjoint", a, b, ok, wantAdjoint(a), true)
		back, backOk := impl.MatAdjoint(b)
		asTold(t, "twice, MatAdjoint", a, back, backOk, a, true)
		det, detOk := impl.MatDet(a)
		other, otherOk := impl.MatDet(b)
		if detOk && otherOk && other != mirrored(det) {
			t.Errorf("MatDet of %v is %v, and %v of its adjoint", a, det, other)
		}
	}
	for _, a := range noneMats() {
		b, ok := impl.MatAdjoint(a)
		asTold(t, "MatAdjoint", a, b, ok, impl.Mat{}, false)
	}
}

// Promise 43: adjoints told in numbers.
func TestMatAdjointNumbers(t *testing.T) {
	const m = partMax
	cases := []struct{ a, want impl.Mat }{
		{noMat, noMat},
		{unitMat, unitMat},
		{matOver([8]int{1, 2, 3, -4, -5, 6, 7, 8}, 1), matOver([8]int{1, -2, -5, -6, 3, 4, 7, -8}, 1)},
		{mat(frac(m, m, m-1), frac(0, 1, m), frac(-m, 0, 1), frac(0, -m, 1)), mat(frac(m, -m, m-1), frac(-m, 0, 1), frac(0, -1, m), frac(0, m, 1))},
	}
	for _, c := range cases {
		b, ok := impl.MatAdjoint(c.a)
		asTold(t, "MatAdjoint", c.a, b, ok, c.want, true)
	}
}

// Promises 43 and 45: what the determinant is, and where it is none.
func TestMatDetAsWanted(t *testing.T) {
	for _, a := range validMats() {
		det, ok := impl.MatDet(a)
		want, wantOk := wantDet(a)
		asTold(t, "MatDet", a, det, ok, want, wantOk)
	}
	for _, a := range noneMats() {
		det, ok := impl.MatDet(a)
		asTold(t, "MatDet", a, det, ok, impl.Frac{}, false)
	}
}

// Promises 43 and 45: determinants told in numbers; of the ones that are none, the first ones would be 0 or 1.
func TestMatDetNumbers(t *testing.T) {
	const m = partMax
	cases := []struct {
		a    impl.Mat
		want impl.Frac
	}{
		{noMat, zero},
		{unitMat, one},
		{matOver([8]int{1, 0, 2, 0, 3, 0, 4, 0}, 1), frac(-2, 0, 1)},
		{matOver([8]int{0, 0, 1, 0, 1, 0, 0, 0}, 1), frac(-1, 0, 1)},
		{matOver([8]int{1, 0, 0, 0, 0, 0, 0, -1}, 1), frac(0, -1, 1)},
		{matOver([8]int{1, 1, 1, 0, 0, 1, 1, -1}, 2), frac(2, -1, 4)},
		{mat(frac(m, 0, 1), frac(1, 0, m), frac(m, 0, 1), one), frac(m-1, 0, 1)},
		{mat(frac(m, 0, 1), frac(0, 1, m), frac(0, m, 1), frac(1, 0, m)), frac(2, 0, 1)},
		{greatFlat, impl.Frac{}},
		{finelyTurned, impl.Frac{}},
		{matOver([8]int{50000, 0, 0, 0, 1, 0, 50000, 0}, 1), impl.Frac{}},
		{matOver([8]int{0, 0, 50000, 0, 50000, 0, 1, 0}, 1), impl.Frac{}},
		{matOver([8]int{m, 0, 1, 0, -1, 0, 1, 0}, 1), impl.Frac{}},
		{mat(one, one, frac(1, 0, m-1), frac(1, 0, m)), impl.Frac{}},
	}
	for _, c := range cases {
		det, ok := impl.MatDet(c.a)
		asTold(t, "MatDet", c.a, det, ok, c.want, c.want != impl.Frac{})
	}
}

// Promise 44.
func TestMatApplyPowerAndInner(t *testing.T) {
	for _, a := range validMats() {
		adjoint, _ := impl.MatAdjoint(a)
		lossless := impl.MatLossless(a)
		for _, v := range validVectors() {
			of := []any{a, v}
			w, ok := impl.MatApply(a, v)
			want, wantOk := wantMatApply(a, v)
			asTold(t, "MatApply", of, w, ok, want, wantOk)
			if !ok {
				continue
			}
			before, beforeOk := impl.JonesPower(v)
			power, powerOk := impl.JonesPower(w)
			if lossless && beforeOk && powerOk && power != before {
				t.Errorf("MatApply of %v has the power %v, not %v", of, power, before)
			}
			back, backOk := impl.MatApply(adjoint, w)
			inner, innerOk := impl.JonesInner(w, w)
			if moved, movedOk := impl.JonesInner(v, back); backOk && innerOk && movedOk && moved != inner {
				t.Errorf("JonesInner of MatApply of %v is %v, and moved to the adjoint %v", of, inner, moved)
			}
		}
	}
}

// Promise 44: a matrix or a vector that is none.
func TestMatApplyOfNone(t *testing.T) {
	for _, a := range noneMats() {
		for _, v := range []impl.Jones{dark, alongX, alongY, oneHand, {}} {
			w, ok := impl.MatApply(a, v)
			asTold(t, "MatApply", []any{a, v}, w, ok, impl.Jones{}, false)
		}
	}
	for _, a := range validMats() {
		for _, v := range noneVectors() {
			w, ok := impl.MatApply(a, v)
			asTold(t, "MatApply", []any{a, v}, w, ok, impl.Jones{}, false)
		}
	}
}

// Promise 44: vectors told in numbers; of the ones that are none, the first two would be dark, and the third one would have 1 as X.
func TestMatApplyNumbers(t *testing.T) {
	const m = partMax
	great := jones(frac(50000, 0, 1), frac(-50000, 0, 1))
	cases := []struct {
		a    impl.Mat
		v    impl.Jones
		want impl.Jones
	}{
		{noMat, jones(frac(m, -m, 1), frac(1, 0, m)), dark},
		{unitMat, oneHand, oneHand},
		{matOver([8]int{1, 2, 3, -4, -5, 6, 7, 8}, 1), dark, dark},
		{matOver([8]int{1, 2, 3, -4, -5, 6, 7, 8}, 1), alongX, jones(frac(1, 2, 1), frac(-5, 6, 1))},
		{matOver([8]int{1, 2, 3, -4, -5, 6, 7, 8}, 1), alongY, jones(frac(3, -4, 1), frac(7, 8, 1))},
		{matOver([8]int{1, 2, 3, -4, -5, 6, 7, 8}, 1), oneHand, jones(frac(5, 5, 1), frac(-13, 13, 1))},
		{matOver([8]int{1, 0, 2, 0, 3, 0, 4, 0}, 3), jones(frac(1, 0, 2), frac(0, 1, 2)), jones(frac(1, 2, 6), frac(3, 4, 6))},
		{matOver([8]int{m, 0, 0, 0, 0, 0, 0, m}, 1), jones(frac(1, 0, m), frac(0, 1, m)), jones(one, frac(-1, 0, 1))},
		{greatFlat, great, impl.Jones{}},
		{matOver([8]int{0, 0, 0, 0, 50000, 0, 50000, 0}, 1), great, impl.Jones{}},
		{finelyTurned, jones(frac(399, 0, 79601), frac(-79600, 0, 79601)), impl.Jones{}},
		{matOver([8]int{m, 0, m, 0, 1, 0, 1, 0}, 1), jones(one, one), impl.Jones{}},
		{matOver([8]int{1, 0, 1, 0, m, 0, m, 0}, 1), jones(one, one), impl.Jones{}},
		{unitMat, jones(one, frac(2, 0, 2)), impl.Jones{}},
	}
	for _, c := range cases {
		w, ok := impl.MatApply(c.a, c.v)
		asTold(t, "MatApply", []any{c.a, c.v}, w, ok, c.want, c.want != impl.Jones{})
	}
}

// Promises 45 and 46.
func TestMatLosslessDetAndAdjoint(t *testing.T) {
	list := validMats()
	for _, a := range elementMats() {
		for _, c := range fracs([][3]int{{0, 1, 1}, {-1, 0, 1}, {3, -4, 5}}) {
			b, _ := wantScale(a, c)
			list = append(list, b)
		}
	}
	for _, a := range list {
		lossless := impl.MatLossless(a)
		if want := wantLossless(a); lossless != want {
			t.Errorf("MatLossless of %v is not %v", a, want)
		}
		if !lossless {
			continue
		}
		det, detOk := impl.MatDet(a)
		if power, powerOk := impl.FracPower(det); detOk && powerOk && power != one {
			t.Errorf("MatDet of %v, which is lossless, has the power %v", a, power)
		}
		losslessOnBothSides(t, a)
	}
	for _, a := range noneMats() {
		if impl.MatLossless(a) {
			t.Errorf("MatLossless of %v holds", a)
		}
	}
}

// losslessOnBothSides fails the test if both products of a lossless matrix and its adjoint are told, and one of them changes something, or the adjoint is not lossless.
func losslessOnBothSides(t *testing.T, a impl.Mat) {
	t.Helper()
	adjoint, _ := impl.MatAdjoint(a)
	left, leftOk := impl.MatTimes(a, adjoint)
	right, rightOk := impl.MatTimes(adjoint, a)
	if leftOk && rightOk && (left != unitMat || right != unitMat || !impl.MatLossless(adjoint)) {
		t.Errorf("%v is lossless, and its products with its adjoint are %v and %v", a, left, right)
	}
}

// Promises 45 and 46: matrices that lose nothing, and ones that do in one row, between both rows, or by a fraction on the way that is none. The last ones tell that it is the matrix that stands first in the product.
func TestMatLosslessNumbers(t *testing.T) {
	const m = partMax
	cases := []struct {
		a    impl.Mat
		want bool
	}{
		{unitMat, true},
		{noMat, false},
		{matOver([8]int{-1, 0, 0, 0, 0, 0, 0, 1}, 1), true},
		{matOver([8]int{0, 0, 0, 1, 1, 0, 0, 0}, 1), true},
		{matOver([8]int{3, 0, -4, 0, 4, 0, 3, 0}, 5), true},
		{matOver([8]int{3, 0, 0, 4, 0, 4, 3, 0}, 5), true},
		{matOver([8]int{1, 1, 1, -1, 1, -1, 1, 1}, 2), true},
		{matOver([8]int{3, 4, 0, 0, 0, 0, -5, 0}, 5), true},
		{matOver([8]int{3, 0, 0, 4, 0, -4, 3, 0}, 5), false},
		{matOver([8]int{3, 0, 4, 0, 4, 0, 3, 0}, 5), false},
		{matOver([8]int{1, 0, 0, 0, 0, 0, 0, 0}, 1), false},
		{matOver([8]int{0, 0, 0, 0, 0, 0, 1, 0}, 1), false},
		{matOver([8]int{1, 0, 0, 0, 0, 0, 2, 0}, 1), false},
		{matOver([8]int{2, 0, 0, 0, 0, 0, 1, 0}, 1), false},
		{matOver([8]int{1, 0, 0, 0, 1, 0, 0, 0}, 1), false},
		{matOver([8]int{1, 0, 1, 0, -1, 0, 1, 0}, 1), false},
		{mat(frac(m, 0, 1), zero, zero, frac(1, 0, m)), false},
		{mat(frac(1200039999, 1599920000, 1999960001), zero, zero, one), true},
		{finelyTurned, false},
		{oneSided, true},
		{wantAdjoint(oneSided), false},
	}
	for _, c := range cases {
		if impl.MatLossless(c.a) != c.want {
			t.Errorf("MatLossless of %v is not %v", c.a, c.want)
		}
	}
}

// Promise 47.
func TestMatAlikeExchangedAndMakesAlike(t *testing.T) {
	eachMatPair(func(a, b impl.Mat) {
		alike := impl.MatAlike(a, b)
		if want := wantMatAlike(a, b); alike != want {
			t.Errorf("MatAlike of %v and %v is not %v", a, b, want)
		}
		if impl.MatAlike(b, a) != alike {
			t.Errorf("MatAlike of %v and %v is %v, and not so exchanged", a, b, alike)
		}
		v, vOk := impl.MatApply(a, alongX)
		w, wOk := impl.MatApply(b, alongX)
		if alike && vOk && wOk && productsTold(v, w) && !impl.JonesAlike(v, w) {
			t.Errorf("%v and %v are alike, and make %v and %v of X", a, b, v, w)
		}
	})
	eachNoneMatPair(func(a, b impl.Mat) {
		if impl.MatAlike(a, b) {
			t.Errorf("MatAlike of %v and %v holds", a, b)
		}
	})
}

// Promise 47: pairs told in numbers; at the end products that are none, though they are the same. The product of both fractions at one place is not asked.
func TestMatAlikeNumbers(t *testing.T) {
	const m = partMax
	only := [4]impl.Mat{}
	for i := range only {
		only[i] = noMat
		only[i].M[i] = frac(50000, 0, 1)
	}
	cases := []struct {
		a, b impl.Mat
		want bool
	}{
		{noMat, noMat, true},
		{noMat, unitMat, false},
		{noMat, only[3], false},
		{unitMat, matOver([8]int{0, 1, 0, 0, 0, 0, 0, 1}, 3), true},
		{unitMat, matOver([8]int{1, 0, 0, 0, 0, 0, -1, 0}, 1), false},
		{unitMat, matOver([8]int{1, 0, 0, 0, 1, 0, 1, 0}, 1), false},
		{matOver([8]int{1, 2, 3, -4, -5, 6, 7, 8}, 1), matOver([8]int{-2, 1, 4, 3, -6, -5, -8, 7}, 9), true},
		{matOver([8]int{1, 2, 3, -4, -5, 6, 7, 8}, 1), matOver([8]int{1, -2, 3, 4, -5, -6, 7, -8}, 1), false},
		{matOver([8]int{1, 0, 2, 0, 3, 0, 4, 0}, 1), matOver([8]int{1, 0, 3, 0, 2, 0, 4, 0}, 1), false},
		{matOver([8]int{1, 0, 1, 0, 1, 0, 1, 0}, 1), matOver([8]int{2, 0, 1, 0, 1, 0, 1, 0}, 1), false},
		{matOver([8]int{1, 0, 1, 0, 1, 0, 1, 0}, 1), matOver([8]int{1, 0, 2, 0, 1, 0, 1, 0}, 1), false},
		{matOver([8]int{1, 0, 1, 0, 1, 0, 1, 0}, 1), matOver([8]int{1, 0, 1, 0, 2, 0, 1, 0}, 1), false},
		{matOver([8]int{1, 0, 1, 0, 1, 0, 1, 0}, 1), matOver([8]int{1, 0, 1, 0, 1, 0, 2, 0}, 1), false},
		{only[0], only[0], true},
		{only[1], only[1], true},
		{only[2], only[2], true},
		{only[3], only[3], true},
		{only[0], only[1], false},
		{only[1], only[2], false},
		{only[2], only[3], false},
		{only[0], only[3], false},
		{matOver([8]int{m, 0, 0, 0, 0, 0, 0, 0}, 1), matOver([8]int{1, 0, 0, 0, 0, 0, 0, 0}, m), true},
		{matOver([8]int{m, 0, m, 0, 0, 0, 0, m}, 1), matOver([8]int{1, 0, 1, 0, 0, 0, 0, 1}, m), true},
		{greatFlat, greatFlat, false},
		{matOver([8]int{50000, 0, 0, 0, 0, 0, 50000, 0}, 1), matOver([8]int{50000, 0, 0, 0, 0, 0, 50000, 0}, 1), false},
		{matOver([8]int{0, 0, 50000, 0, 50000, 0, 0, 0}, 1), matOver([8]int{0, 0, 50000, 0, 50000, 0, 0, 0}, 1), false},
		{matOver([8]int{1, 0, 0, 1, 0, 0, 0, 0}, 50000), matOver([8]int{1, 0, 0, 1, 0, 0, 0, 0}, 50000), false},
	}
	for _, c := range cases {
		if impl.MatAlike(c.a, c.b) != c.want || impl.MatAlike(c.b, c.a) != c.want {
			t.Errorf("MatAlike of %v and %v is not %v", c.a, c.b, c.want)
		}
	}
}

// Promise 51.
func TestMatScaleAlike(t *testing.T) {
	for _, a := range validMats() {
		for _, c := range validFracs() {
			b, ok := impl.MatScale(a, c)
			want, wantOk := wantScale(a, c)
			asTold(t, "MatScale", []any{a, c}, b, ok, want, wantOk)
			if alike := impl.MatAlike(a, b); ok && smallMat(a) && smallMat(b) && alike != (c != zero || a == noMat) {
				t.Errorf("MatAlike of %v and %v, which is %v times it, is %v", a, b, c, alike)
			}
		}
	}
}

// Promise 51: a matrix or a fraction that is none.
func TestMatScaleOfNone(t *testing.T) {
	for _, a := range noneMats() {
		for _, c := range []impl.Frac{zero, one, frac(0, 1, 2), {}} {
			b, ok := impl.MatScale(a, c)
			asTold(t, "MatScale", []any{a, c}, b, ok, impl.Mat{}, false)
		}
	}
	for _, a := range validMats() {
		for _, c := range noneFracs() {
			b, ok := impl.MatScale(a, c)
			asTold(t, "MatScale", []any{a, c}, b, ok, impl.Mat{}, false)
		}
	}
}

// Promise 51: multiples told in numbers; each of the last ones fails at one place alone.
func TestMatScaleNumbers(t *testing.T) {
	const m = partMax
	cases := []struct {
		a    impl.Mat
		c    impl.Frac
		want impl.Mat
	}{
		{noMat, frac(m, -m, 1), noMat},
		{matOver([8]int{1, 2, 3, -4, -5, 6, 7, 8}, 1), zero, noMat},
		{matOver([8]int{1, 2, 3, -4, -5, 6, 7, 8}, 1), frac(0, 1, 1), matOver([8]int{-2, 1, 4, 3, -6, -5, -8, 7}, 1)},
		{matOver([8]int{1, 0, 2, 0, 3, 0, 4, 0}, 1), frac(-1, 1, 6), matOver([8]int{-1, 1, -2, 2, -3, 3, -4, 4}, 6)},
		{matOver([8]int{m, 0, 0, m, 0, 0, -m, 0}, 1), frac(1, 0, m), matOver([8]int{1, 0, 0, 1, 0, 0, -1, 0}, 1)},
		{matOver([8]int{50001, 0, 1, 0, 1, 0, 1, 0}, 1), frac(40000, 0, 1), impl.Mat{}},
		{matOver([8]int{1, 0, 50001, 0, 1, 0, 1, 0}, 1), frac(40000, 0, 1), impl.Mat{}},
		{matOver([8]int{1, 0, 1, 0, 0, 50001, 1, 0}, 1), frac(40000, 0, 1), impl.Mat{}},
		{mat(one, one, one, frac(1, 0, 50001)), frac(1, 0, 40000), impl.Mat{}},
	}
	for _, c := range cases {
		b, ok := impl.MatScale(c.a, c.c)
		asTold(t, "MatScale", []any{c.a, c.c}, b, ok, c.want, c.want != impl.Mat{})
	}
}
