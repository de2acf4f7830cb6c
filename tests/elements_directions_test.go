package tests

import (
	"testing"

	"loop.example/polarisedlight/impl"
)

// losslessOf fails the test unless a matrix, made of something, is lossless.
func losslessOf(t *testing.T, name string, of any, m impl.Mat) {
	t.Helper()
	if !impl.MatLossless(m) {
		t.Errorf("%s of %v is %v, which is not lossless", name, of, m)
	}
}

// Promise 48.
func TestMatRotatorLosslessAndBack(t *testing.T) {
	for _, d := range append(directions(), noDirections()...) {
		r, ok := impl.MatRotator(d[0], d[1])
		want, wantOk := wantRotator(d[0], d[1])
		asTold(t, "MatRotator", d, r, ok, want, wantOk)
		if !ok {
			continue
		}
		losslessOf(t, "MatRotator", d, r)
		det, detOk := impl.MatDet(r)
		asTold(t, "of MatRotator, MatDet", d, det, detOk, one, true)
		back, _ := impl.MatRotator(d[0], -d[1])
		product, productOk := impl.MatTimes(r, back)
		asTold(t, "the product with that of p and -q, MatRotator", d, product, productOk, unitMat, true)
	}
}

// Promises 48 and 50: all directions have a rotator and a filter with the square of its first number, and all that is around them has none.
func TestEachDirection(t *testing.T) {
	for p := -103; p <= 103; p++ {
		for q := -103; q <= 103; q++ {
			c, s, n := partsOf(p, q)
			first, _ := impl.FracMake(c, 0, n)
			second, _ := impl.FracMake(s, 0, n)
			square, _ := impl.FracPower(first)
			r, ok := impl.MatRotator(p, q)
			f, filterOk := impl.MatFilter(p, q)
			if want := isDirection(p, q); ok != want || filterOk != want {
				t.Errorf("MatRotator and MatFilter of %d and %d are told %v and %v", p, q, ok, filterOk)
			}
			if ok && (r.M[0] != first || r.M[2] != second || f.M[0] != square) {
				t.Errorf("MatRotator and MatFilter of %d and %d are %v and %v", p, q, r, f)
			}
		}
	}
}

// Promise 48: rotators told in numbers, with negative directions, and what is no direction.
func TestMatRotatorNumbers(t *testing.T) {
	cases := []struct {
		p, q int
		want impl.Mat
	}{
		{1, 0, unitMat},
		{-1, 0, unitMat},
		{100, 0, unitMat},
		{0, 1, matOver([8]int{-1, 0, 0, 0, 0, 0, -1, 0}, 1)},
		{0, -100, matOver([8]int{-1, 0, 0, 0, 0, 0, -1, 0}, 1)},
		{1, 1, matOver([8]int{0, 0, -1, 0, 1, 0, 0, 0}, 1)},
		{-1, -1, matOver([8]int{0, 0, -1, 0, 1, 0, 0, 0}, 1)},
		{1, -1, matOver([8]int{0, 0, 1, 0, -1, 0, 0, 0}, 1)},
		{-100, 100, matOver([8]int{0, 0, 1, 0, -1, 0, 0, 0}, 1)},
		{2, 1, matOver([8]int{3, 0, -4, 0, 4, 0, 3, 0}, 5)},
		{-2, 1, matOver([8]int{3, 0, 4, 0, -4, 0, 3, 0}, 5)},
		{2, -1, matOver([8]int{3, 0, 4, 0, -4, 0, 3, 0}, 5)},
		{1, 2, matOver([8]int{-3, 0, -4, 0, 4, 0, -3, 0}, 5)},
		{-1, 2, matOver([8]int{-3, 0, 4, 0, -4, 0, -3, 0}, 5)},
		{3, 1, matOver([8]int{4, 0, -3, 0, 3, 0, 4, 0}, 5)},
		{100, 99, matOver([8]int{199, 0, -19800, 0, 19800, 0, 199, 0}, 19801)},
		{-99, 100, matOver([8]int{-199, 0, 19800, 0, -19800, 0, -199, 0}, 19801)},
		{0, 0, impl.Mat{}},
		{101, 0, impl.Mat{}},
		{0, -101, impl.Mat{}},
		{-101, 101, impl.Mat{}},
	}
	for _, c := range cases {
		r, ok := impl.MatRotator(c.p, c.q)
		asTold(t, "MatRotator", [2]int{c.p, c.q}, r, ok, c.want, c.want != impl.Mat{})
	}
}

// Promise 49.
func TestMatPlateLosslessAndNextPhase(t *testing.T) {
	for _, d := range directions() {
		quarter, _ := impl.MatPlate(d[0], d[1], 1)
		for k := -1; k <= 4; k++ {
			of := []int{d[0], d[1], k}
			m, ok := impl.MatPlate(d[0], d[1], k)
			want, wantOk := wantPlate(d[0], d[1], k)
			asTold(t, "MatPlate", of, m, ok, want, wantOk)
			if !ok {
				continue
			}
			if product, productOk := wantMatTimes(m, wantAdjoint(m)); productOk {
				losslessOf(t, "MatPlate", of, m)
				asTold(t, "MatTimes of it and its adjoint, MatPlate", of, product, productOk, unitMat, true)
			}
			power := [4]impl.Frac{one, frac(0, 1, 1), frac(-1, 0, 1), frac(0, -1, 1)}[k]
			if det, detOk := impl.MatDet(m); detOk && det != power {
				t.Errorf("MatDet of MatPlate of %v is %v", of, det)
			}
			next, _ := impl.MatPlate(d[0], d[1], (k+1)%4)
			if product, productOk := impl.MatTimes(m, quarter); productOk && product != next {
				t.Errorf("MatPlate of %v with a quarter more is %v, not %v", of, product, next)
			}
		}
	}
}

// Promise 49: no direction or no phase, or both.
func TestMatPlateOfNone(t *testing.T) {
	for _, d := range noDirections() {
		for _, k := range append(noPhases(), 0, 1, 2, 3) {
			m, ok := impl.MatPlate(d[0], d[1], k)
			asTold(t, "MatPlate", []int{d[0], d[1], k}, m, ok, impl.Mat{}, false)
		}
	}
	for _, d := range directions() {
		for _, k := range noPhases() {
			m, ok := impl.MatPlate(d[0], d[1], k)
			asTold(t, "MatPlate", []int{d[0], d[1], k}, m, ok, impl.Mat{}, false)
		}
	}
}

// Promise 49: plates told in numbers, with negative directions, and what is no direction or no phase.
func TestMatPlateNumbers(t *testing.T) {
	cases := []struct {
		p, q, k int
		want    impl.Mat
	}{
		{1, 0, 0, unitMat},
		{-7, 3, 0, unitMat},
		{1, 0, 1, matOver([8]int{1, 0, 0, 0, 0, 0, 0, 1}, 1)},
		{1, 0, 2, matOver([8]int{1, 0, 0, 0, 0, 0, -1, 0}, 1)},
		{1, 0, 3, matOver([8]int{1, 0, 0, 0, 0, 0, 0, -1}, 1)},
		{0, -5, 1, matOver([8]int{1, 0, 0, 0, 0, 0, 0, 1}, 1)},
		{1, 1, 1, matOver([8]int{0, 1, 0, 0, 0, 0, 1, 0}, 1)},
		{1, -1, 3, matOver([8]int{0, -1, 0, 0, 0, 0, 1, 0}, 1)},
		{2, 1, 1, matOver([8]int{9, 16, 12, -12, 12, -12, 16, 9}, 25)},
		{2, -1, 1, matOver([8]int{9, 16, -12, 12, -12, 12, 16, 9}, 25)},
		{-2, -1, 3, matOver([8]int{9, -16, 12, 12, 12, 12, 16, -9}, 25)},
		{2, 1, 2, matOver([8]int{-7, 0, 24, 0, 24, 0, 7, 0}, 25)},
		{-2, 1, 2, matOver([8]int{-7, 0, -24, 0, -24, 0, 7, 0}, 25)},
		{100, 99, 1, matOver([8]int{39601, 392040000, 3940200, -3940200, 3940200, -3940200, 392040000, 39601}, 392079601)},
		{1, 0, -1, impl.Mat{}},
		{1, 0, 4, impl.Mat{}},
		{0, 0, 0, impl.Mat{}},
		{0, 0, 4, impl.Mat{}},
		{101, 0, 1, impl.Mat{}},
		{0, -101, 1, impl.Mat{}},
	}
	for _, c := range cases {
		m, ok := impl.MatPlate(c.p, c.q, c.k)
		asTold(t, "MatPlate", []int{c.p, c.q, c.k}, m, ok, c.want, c.want != impl.Mat{})
	}
}

// Promise 50.
func TestMatFilterTwiceAndAdjoint(t *testing.T) {
	for _, d := range append(directions(), noDirections()...) {
		m, ok := impl.MatFilter(d[0], d[1])
		want, wantOk := wantFilter(d[0], d[1])
		asTold(t, "MatFilter", d, m, ok, want, wantOk)
		if !ok {
			continue
		}
		if twice, twiceOk := impl.MatTimes(m, m); twiceOk && twice != m {
			t.Errorf("MatFilter of %v is %v, and twice %v", d, m, twice)
		}
		adjoint, adjointOk := impl.MatAdjoint(m)
		asTold(t, "of MatFilter, MatAdjoint", d, adjoint, adjointOk, m, true)
		if det, detOk := impl.MatDet(m); detOk && det != zero {
			t.Errorf("MatDet of MatFilter of %v is %v", d, det)
		}
	}
}

// Promise 50: filters told in numbers, with negative directions, and what is no direction.
func TestMatFilterNumbers(t *testing.T) {
	alongFirst := matOver([8]int{1, 0, 0, 0, 0, 0, 0, 0}, 1)
	alongSecond := matOver([8]int{0, 0, 0, 0, 0, 0, 1, 0}, 1)
	cases := []struct {
		p, q int
		want impl.Mat
	}{
		{1, 0, alongFirst},
		{-100, 0, alongFirst},
		{0, 1, alongFirst},
		{0, -3, alongFirst},
		{1, 1, alongSecond},
		{1, -1, alongSecond},
		{-100, -100, alongSecond},
		{2, 1, matOver([8]int{9, 0, 12, 0, 12, 0, 16, 0}, 25)},
		{2, -1, matOver([8]int{9, 0, -12, 0, -12, 0, 16, 0}, 25)},
		{-1, 2, matOver([8]int{9, 0, 12, 0, 12, 0, 16, 0}, 25)},
		{3, 1, matOver([8]int{16, 0, 12, 0, 12, 0, 9, 0}, 25)},
		{-99, 100, matOver([8]int{39601, 0, 3940200, 0, 3940200, 0, 392040000, 0}, 392079601)},
		{0, 0, impl.Mat{}},
		{0, 101, impl.Mat{}},
		{-101, 0, impl.Mat{}},
		{101, -101, impl.Mat{}},
	}
	for _, c := range cases {
		m, ok := impl.MatFilter(c.p, c.q)
		asTold(t, "MatFilter", [2]int{c.p, c.q}, m, ok, c.want, c.want != impl.Mat{})
	}
}
