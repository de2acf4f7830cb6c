package tests

import (
	"testing"

	"loop.example/polarisedlight/impl"
)

// Promise 29.
func TestJonesAlikeMakesAlikeLight(t *testing.T) {
	eachPair(func(a, b impl.Jones) {
		if !impl.JonesAlike(a, b) {
			return
		}
		if !impl.JonesAlike(b, a) {
			t.Errorf("JonesAlike of %v and %v holds, and not exchanged", a, b)
		}
		first, firstOk := impl.StokesOf(a)
		second, secondOk := impl.StokesOf(b)
		if firstOk && secondOk && small(first) && small(second) && !impl.StokesAlike(first, second) {
			t.Errorf("%v and %v are alike, and their four numbers %v and %v not", a, b, first, second)
		}
	})
}

// Promise 29: multiples of vectors, by fractions with both signs and both parts, are alike, and so are their four numbers.
func TestMultiplesMakeAlikeLight(t *testing.T) {
	for _, a := range []impl.Jones{dark, alongX, alongY, oneHand, jones(frac(1, 2, 3), frac(-1, 1, 2)), jones(frac(3, 0, 5), frac(0, -4, 5))} {
		for _, c := range fracs([][3]int{{1, 0, 1}, {-1, 0, 1}, {0, 1, 1}, {0, -2, 3}, {1, 2, 1}, {-3, 1, 2}}) {
			b, _ := impl.JonesTimes(a, c)
			first, firstOk := impl.StokesOf(a)
			second, secondOk := impl.StokesOf(b)
			if !firstOk || !secondOk || !small(first) || !small(second) {
				t.Errorf("four numbers of %v and %v are %v, %v and %v, %v", a, b, first, firstOk, second, secondOk)
			}
			if !impl.JonesAlike(a, b) || !impl.JonesAlike(b, a) || !impl.StokesAlike(first, second) || !impl.StokesAlike(second, first) {
				t.Errorf("%v and %v, which is %v times it, are not alike", a, b, c)
			}
		}
	}
}

// Promise 30: mirrored, a vector has the mirrored four numbers; that it leads back stands with the vectors.
func TestJonesMirrorMirrorsLight(t *testing.T) {
	for _, a := range validVectors() {
		m, _ := impl.JonesMirror(a)
		s, ok := impl.StokesOf(a)
		other, otherOk := impl.StokesOf(m)
		if otherOk != ok {
			t.Errorf("StokesOf of %v is told %v, and %v mirrored", a, ok, otherOk)
		}
		if ok {
			want, wantOk := impl.StokesMirror(s)
			asTold(t, "mirrored, StokesOf", a, other, otherOk, want, wantOk)
		}
	}
}

// Promise 31.
func TestStokesValidTimesOneAndMirrored(t *testing.T) {
	for _, a := range validStokes() {
		if !impl.StokesValid(a) {
			t.Errorf("StokesValid of %v does not hold", a)
		}
		same, ok := impl.StokesTimes(a, one)
		asTold(t, "by 1, StokesTimes", a, same, ok, a, true)
		m, _ := impl.StokesMirror(a)
		back, backOk := impl.StokesMirror(m)
		asTold(t, "twice, StokesMirror", a, back, backOk, a, true)
	}
}

// Promise 31: one of the four is none or not real.
func TestStokesValidOfNone(t *testing.T) {
	for _, a := range noneStokes() {
		if impl.StokesValid(a) {
			t.Errorf("StokesValid of %v holds", a)
		}
	}
}

// Promises 32 and 33.
func TestStokesLightMirrored(t *testing.T) {
	for _, a := range validStokes() {
		light, pure := impl.StokesLight(a), impl.StokesPure(a)
		if wantLight, wantPure := wantLightAndPure(a); light != wantLight || pure != wantPure {
			t.Errorf("StokesLight and StokesPure of %v are %v and %v, not %v and %v", a, light, pure, wantLight, wantPure)
		}
		if sign, ok := impl.FracCompare(a.S[0], zero); light && (!ok || sign < 0) {
			t.Errorf("StokesLight of %v holds", a)
		}
		if pure && !light {
			t.Errorf("StokesPure of %v holds, and StokesLight not", a)
		}
		m, _ := impl.StokesMirror(a)
		if impl.StokesLight(m) != light || impl.StokesPure(m) != pure {
			t.Errorf("%v is light or pure, and mirrored not so", a)
		}
	}
	for _, a := range noneStokes() {
		if impl.StokesLight(a) || impl.StokesPure(a) {
			t.Errorf("StokesLight or StokesPure of %v holds", a)
		}
	}
}

// Promises 32 and 33: light told in numbers; at the end squares or sums that are none, though what they tell would be clear.
func TestStokesLightNumbers(t *testing.T) {
	const m = partMax
	cases := []struct {
		s           impl.Stokes
		light, pure bool
	}{
		{noLight, true, true},
		{stokesOver(1, 0, 0, 0, 1), true, false},
		{stokesOver(1, -1, 0, 0, 1), true, true},
		{stokesOver(1, 0, 1, 0, 1), true, true},
		{stokesOver(1, 0, 0, -1, 1), true, true},
		{stokesOver(2, 1, 0, 0, 1), true, false},
		{stokesOver(0, 0, 0, 1, 1), false, false},
		{stokesOver(1, 1, 1, 0, 1), false, false},
		{stokesOver(1, 0, 1, 1, 1), false, false},
		{stokesOver(-1, 0, 0, 0, 1), false, false},
		{stokesOver(-1, 1, 0, 0, 1), false, false},
		{stokesOver(-2, 0, 0, 1, 1), false, false},
		{stokesOver(3, 1, 2, -2, 1), true, true},
		{stokesOver(3, 1, 2, 1, 1), true, false},
		{stokesOver(3, 2, 2, 2, 1), false, false},
		{stokesOver(5, 3, 0, -4, 5), true, true},
		{stokesOver(1, 1, 1, 1, 2), false, false},
		{stokes(one, frac(44720, 0, 44721), zero, zero), true, false},
		{stokes(one, zero, zero, frac(44721, 0, 44720)), false, false},
		{stokesOver(44721, 0, 0, 44721, 1), true, true},
		{stokesOver(1, 0, -1, 0, 44721), true, true},
		{steepPure, true, true},
		{stokes(frac(2, 0, 1), frac(3, 0, 5), frac(4, 0, 5), frac(1, 0, 10007)), true, false},
		{brokenSum, false, false},
		{stokesOver(44722, 0, 0, 0, 1), false, false},
		{stokesOver(m, 0, 0, 0, 1), false, false},
		{stokesOver(m, m, 0, 0, 1), false, false},
		{stokesOver(1, 0, 0, 0, m), false, false},
		{stokesOver(1, 0, 0, 1, 44722), false, false},
		{stokes(one, zero, frac(1, 0, m), zero), false, false},
		{stokesOver(79601, 399, 79600, 0, 79601), false, false},
	}
	for _, c := range cases {
		if light, pure := impl.StokesLight(c.s), impl.StokesPure(c.s); light != c.light || pure != c.pure {
			t.Errorf("StokesLight and StokesPure of %v are %v and %v, not %v and %v", c.s, light, pure, c.light, c.pure)
		}
	}
}

// Promises 33 and 38.
func TestStokesVectorLeadsBack(t *testing.T) {
	list := validStokes()
	for _, v := range validVectors() {
		if s, ok := wantStokesOf(v); ok {
			list = append(list, s)
		}
	}
	for _, a := range list {
		v, ok := impl.StokesVector(a)
		want, wantOk := wantStokesVector(a)
		asTold(t, "StokesVector", a, v, ok, want, wantOk)
		if !ok {
			continue
		}
		if !impl.JonesValid(v) || v == dark || !impl.StokesPure(a) {
			t.Errorf("StokesVector of %v is %v", a, v)
		}
		if back, backOk := impl.StokesOf(v); backOk && small(a) && small(back) && !impl.StokesAlike(a, back) {
			t.Errorf("StokesVector of %v leads back to %v", a, back)
		}
	}
	for _, a := range noneStokes() {
		v, ok := impl.StokesVector(a)
		asTold(t, "StokesVector", a, v, ok, impl.Jones{}, false)
	}
}

// Promises 33 and 38: vectors told in numbers; the last ones are of what is all 0, not pure, negative, or none on the way.
func TestStokesVectorNumbers(t *testing.T) {
	cases := []struct {
		s    impl.Stokes
		want impl.Jones
	}{
		{stokesOver(2, 0, 0, -2, 1), jones(frac(2, 0, 1), frac(0, 2, 1))},
		{stokesOver(2, 0, 0, 2, 1), jones(frac(2, 0, 1), frac(0, -2, 1))},
		{stokesOver(1, 1, 0, 0, 1), jones(frac(2, 0, 1), zero)},
		{stokesOver(1, -1, 0, 0, 1), jones(zero, frac(2, 0, 1))},
		{stokesOver(1, -1, 0, 0, 2), alongY},
		{stokesOver(44721, -44721, 0, 0, 1), jones(zero, frac(89442, 0, 1))},
		{stokesOver(1, -1, 0, 0, 44721), jones(zero, frac(2, 0, 44721))},
		{stokesOver(3, 1, 2, 2, 1), jones(frac(4, 0, 1), frac(2, -2, 1))},
		{stokesOver(3, -2, 2, -1, 1), jones(one, frac(2, 1, 1))},
		{stokesOver(5, 0, 3, 4, 5), jones(one, frac(3, -4, 5))},
		{stokesOver(3, -1, 2, -2, 3), jones(frac(2, 0, 3), frac(2, 2, 3))},
		{stokesOver(44721, 0, 44721, 0, 1), jones(frac(44721, 0, 1), frac(44721, 0, 1))},
		{noLight, impl.Jones{}},
		{stokesOver(1, 0, 0, 0, 1), impl.Jones{}},
		{stokesOver(2, -1, 0, 0, 1), impl.Jones{}},
		{stokesOver(1, -1, 0, 1, 1), impl.Jones{}},
		{stokesOver(-1, 1, 0, 0, 1), impl.Jones{}},
		{stokesOver(-1, -1, 0, 0, 1), impl.Jones{}},
		{steepPure, impl.Jones{}},
		{stokesOver(44722, -44722, 0, 0, 1), impl.Jones{}},
		{stokesOver(1, -1, 0, 0, 44722), impl.Jones{}},
		{stokesOver(79601, 399, 79600, 0, 79601), impl.Jones{}},
	}
	for _, c := range cases {
		v, ok := impl.StokesVector(c.s)
		asTold(t, "StokesVector", c.s, v, ok, c.want, c.want != impl.Jones{})
	}
}

// Promise 34.
func TestStokesOfIsPure(t *testing.T) {
	for _, a := range validVectors() {
		s, ok := impl.StokesOf(a)
		want, wantOk := wantStokesOf(a)
		asTold(t, "StokesOf", a, s, ok, want, wantOk)
		if !ok {
			continue
		}
		if _, squaresOk := impl.StokesSquares(s); squaresOk && !impl.StokesPure(s) {
			t.Errorf("StokesOf of %v is %v, which is not pure", a, s)
		}
		power, powerOk := impl.JonesPower(a)
		asTold(t, "the first number", a, s.S[0], ok, power, powerOk)
		turned, _ := impl.JonesTimes(a, frac(0, 1, 1))
		if other, otherOk := impl.StokesOf(turned); otherOk && other != s {
			t.Errorf("StokesOf of %v is %v, and times i %v", a, s, other)
		}
	}
	for _, a := range noneVectors() {
		s, ok := impl.StokesOf(a)
		asTold(t, "StokesOf", a, s, ok, impl.Stokes{}, false)
	}
}

// Promise 34: four numbers told in numbers.
func TestStokesOfNumbers(t *testing.T) {
	cases := []struct {
		a    impl.Jones
		want impl.Stokes
	}{
		{dark, noLight},
		{alongX, stokesOver(1, 1, 0, 0, 1)},
		{alongY, stokesOver(1, -1, 0, 0, 1)},
		{jones(one, one), stokesOver(2, 0, 2, 0, 1)},
		{jones(one, frac(-1, 0, 1)), stokesOver(2, 0, -2, 0, 1)},
		{oneHand, stokesOver(2, 0, 0, -2, 1)},
		{jones(one, frac(0, -1, 1)), stokesOver(2, 0, 0, 2, 1)},
		{jones(frac(3, 0, 5), frac(0, 4, 5)), stokesOver(25, -7, 0, -24, 25)},
		{jones(frac(1, 1, 2), frac(1, 0, 3)), stokesOver(11, 7, 6, 6, 18)},
		{jones(frac(31622, 0, 1), frac(0, 31622, 1)), stokesOver(1999901768, 0, 0, -1999901768, 1)},
		{jones(frac(800000, 840000, 29), frac(1000, 0, 1)), stokes(frac(1601000000, 0, 1), frac(1599000000, 0, 1), frac(1600000000, 0, 29), frac(1680000000, 0, 29))},
		// The real part has lower terms than both parts over one bottom, which doubled would be none.
		{jones(frac(79998, -39999, 5), frac(79998, -40004, 5)), stokes(frac(639984001, 0, 1), frac(-80003, 0, 5), frac(639984000, 0, 1), frac(159996, 0, 5))},
	}
	for _, c := range cases {
		s, ok := impl.StokesOf(c.a)
		asTold(t, "StokesOf", c.a, s, ok, c.want, true)
	}
}

// Promise 34: powers, a product or a number that is none; of the first vector, all four numbers would be exact fractions.
func TestStokesOfFails(t *testing.T) {
	const m = partMax
	for _, a := range []impl.Jones{
		jones(frac(1200039999, 1599920000, 1999960001), frac(1, 0, 2)),
		jones(frac(1200039999, 1599920000, 1999960001), frac(1, 1, 2)),
		jones(frac(399, 0, 79601), frac(79600, 0, 79601)),
		jones(frac(800000, 840000, 29), frac(2000, 0, 1)),
		jones(frac(31623, 0, 1), frac(31623, 0, 1)),
		jones(frac(m, 0, 1), zero),
		jones(zero, frac(0, 1, m)),
		jones(frac(1, 0, 40000), frac(1, 0, 44721)),
	} {
		s, ok := impl.StokesOf(a)
		asTold(t, "StokesOf", a, s, ok, impl.Stokes{}, false)
	}
}

// Promise 35.
func TestStokesAddExchangedAndLight(t *testing.T) {
	eachStokesPair(func(a, b impl.Stokes) {
		pair := [2]impl.Stokes{a, b}
		sum, ok := impl.StokesAdd(a, b)
		want, wantOk := wantStokesAdd(a, b)
		asTold(t, "StokesAdd", pair, sum, ok, want, wantOk)
		if !ok {
			return
		}
		other, otherOk := impl.StokesAdd(b, a)
		asTold(t, "exchanged, StokesAdd", pair, other, otherOk, sum, true)
		if impl.StokesLight(a) && impl.StokesLight(b) && squaresTold(sum) && !impl.StokesLight(sum) {
			t.Errorf("%v is light and light, and their sum %v not", pair, sum)
		}
	})
	eachNoneStokesPair(func(a, b impl.Stokes) {
		sum, ok := impl.StokesAdd(a, b)
		asTold(t, "StokesAdd", [2]impl.Stokes{a, b}, sum, ok, impl.Stokes{}, false)
	})
}

// Promise 35: sums told in numbers; each of the last ones fails in one number alone.
func TestStokesAddNumbers(t *testing.T) {
	const m = partMax
	great := [4]impl.Stokes{stokesOver(m, 0, 0, 0, 1), stokesOver(0, m, 0, 0, 1), stokesOver(0, 0, m, 0, 1), stokesOver(0, 0, 0, m, 1)}
	cases := []struct{ a, b, want impl.Stokes }{
		{noLight, noLight, noLight},
		{noLight, stokesOver(3, 1, 2, 2, 1), stokesOver(3, 1, 2, 2, 1)},
		{stokesOver(1, 1, 0, 0, 1), stokesOver(1, -1, 0, 0, 1), stokesOver(2, 0, 0, 0, 1)},
		{stokesOver(3, 1, 2, -2, 6), stokesOver(3, -2, 2, 1, 3), stokesOver(9, -3, 6, 0, 6)},
		{stokesOver(1-m, m-1, m, -m, 1), stokesOver(-1, 1, 0, 0, 1), stokesOver(-m, m, m, -m, 1)},
		{stokesOver(m-1, 1, m-1, -1, m), stokesOver(1, m-1, 0, 1, m), stokesOver(m, m, m-1, 0, m)},
		{great[0], stokesOver(1, 1, 1, 1, 1), impl.Stokes{}},
		{great[1], stokesOver(1, 1, 1, 1, 1), impl.Stokes{}},
		{great[2], stokesOver(1, 1, 1, 1, 1), impl.Stokes{}},
		{great[3], stokesOver(1, 1, 1, 1, 1), impl.Stokes{}},
		{stokesOver(0, 0, 0, 1, m), stokesOver(0, 0, 0, 1, m-1), impl.Stokes{}},
	}
	for _, c := range cases {
		sum, ok := impl.StokesAdd(c.a, c.b)
		asTold(t, "StokesAdd", [2]impl.Stokes{c.a, c.b}, sum, ok, c.want, c.want != impl.Stokes{})
	}
}

// Promise 36.
func TestStokesTimesKeepsLight(t *testing.T) {
	for _, a := range validStokes() {
		for _, c := range validFracs() {
			b, ok := impl.StokesTimes(a, c)
			want, wantOk := wantStokesTimes(a, c)
			if c.Im != 0 {
				want, wantOk = impl.Stokes{}, false
			}
			asTold(t, "StokesTimes", []any{a, c}, b, ok, want, wantOk)
			if ok && c.Re >= 0 && impl.StokesLight(a) && squaresTold(b) && !impl.StokesLight(b) {
				t.Errorf("%v is light, and %v, which is %v times it, not", a, b, c)
			}
		}
	}
}

// Promise 36: four numbers or a factor that are none, or a factor that is not real.
func TestStokesTimesOfNone(t *testing.T) {
	for _, a := range noneStokes() {
		for _, c := range []impl.Frac{zero, one, frac(-1, 0, 2), frac(0, 1, 1), {}} {
			b, ok := impl.StokesTimes(a, c)
			asTold(t, "StokesTimes", []any{a, c}, b, ok, impl.Stokes{}, false)
		}
	}
	for _, a := range validStokes() {
		for _, c := range append(noneFracs(), notRealFracs()...) {
			b, ok := impl.StokesTimes(a, c)
			asTold(t, "StokesTimes", []any{a, c}, b, ok, impl.Stokes{}, false)
		}
	}
}

// Promise 36: multiples told in numbers; each of the last ones fails in one number alone.
func TestStokesTimesNumbers(t *testing.T) {
	const m = partMax
	cases := []struct {
		a    impl.Stokes
		c    impl.Frac
		want impl.Stokes
	}{
		{noLight, frac(-m, 0, 1), noLight},
		{stokesOver(m, -m, m, -m, 1), zero, noLight},
		{stokesOver(3, 1, 2, -2, 1), frac(1, 0, 2), stokesOver(3, 1, 2, -2, 2)},
		{stokesOver(3, 1, 2, -2, 1), frac(-1, 0, 1), stokesOver(-3, -1, -2, 2, 1)},
		{stokesOver(1, -1, 0, 0, 6), frac(9, 0, 2), stokesOver(3, -3, 0, 0, 4)},
		{stokesOver(m, -m, 0, m, 1), frac(-1, 0, m), stokesOver(-1, 1, 0, -1, 1)},
		{stokesOver(50000, 0, 0, -50000, 1), frac(40000, 0, 1), stokesOver(m, 0, 0, -m, 1)},
		{stokesOver(50001, 1, 1, 1, 1), frac(40000, 0, 1), impl.Stokes{}},
		{stokesOver(1, 50001, 1, 1, 1), frac(40000, 0, 1), impl.Stokes{}},
		{stokesOver(1, 1, 50001, 1, 1), frac(40000, 0, 1), impl.Stokes{}},
		{stokesOver(1, 1, 1, 50001, 1), frac(40000, 0, 1), impl.Stokes{}},
		{stokes(zero, zero, zero, frac(1, 0, 50001)), frac(1, 0, 40000), impl.Stokes{}},
	}
	for _, c := range cases {
		b, ok := impl.StokesTimes(c.a, c.c)
		asTold(t, "StokesTimes", []any{c.a, c.c}, b, ok, c.want, c.want != impl.Stokes{})
	}
}

// Promise 37.
func TestStokesSquaresMirrored(t *testing.T) {
	for _, a := range validStokes() {
		squares, ok := impl.StokesSquares(a)
		want, wantOk := wantStokesSquares(a)
		asTold(t, "StokesSquares", a, squares, ok, want, wantOk)
		m, _ := impl.StokesMirror(a)
		other, otherOk := impl.StokesSquares(m)
		asTold(t, "mirrored, StokesSquares", a, other, otherOk, squares, ok)
		if sign, signOk := impl.FracCompare(squares, zero); ok && (!signOk || sign < 0) {
			t.Errorf("StokesSquares of %v is %v", a, squares)
		}
	}
	for _, a := range noneStokes() {
		squares, ok := impl.StokesSquares(a)
		asTold(t, "StokesSquares", a, squares, ok, impl.Frac{}, false)
	}
}

// Promise 37: squares told in numbers, whatever the first number is; of those that are none, the first ones would be 1, and 1 and a small square.
func TestStokesSquaresNumbers(t *testing.T) {
	const m = partMax
	cases := []struct {
		s    impl.Stokes
		want impl.Frac
	}{
		{noLight, zero},
		{stokesOver(m, 0, 0, 0, 1), zero},
		{stokesOver(-m, 1, -2, 3, 1), frac(14, 0, 1)},
		{stokes(frac(1, 0, m), frac(1, 0, 2), frac(-1, 0, 3), frac(1, 0, 6)), frac(7, 0, 18)},
		{stokesOver(0, 3, 0, -4, 5), one},
		{stokesOver(1, 0, 44721, 0, 1), frac(1999967841, 0, 1)},
		{stokesOver(1, 0, 0, -1, 44721), frac(1, 0, 1999967841)},
		{stokes(one, frac(3, 0, 5), frac(4, 0, 5), frac(1, 0, 10007)), frac(100140050, 0, 100140049)},
		{stokesOver(79601, 399, 79600, 0, 79601), impl.Frac{}},
		{brokenSum, impl.Frac{}},
		{stokes(one, frac(3, 0, 5), frac(1, 0, 10007), frac(4, 0, 5)), impl.Frac{}},
		{stokesOver(1, 44722, 0, 0, 1), impl.Frac{}},
		{stokesOver(1, 0, 44722, 0, 1), impl.Frac{}},
		{stokesOver(1, 0, 0, 44722, 1), impl.Frac{}},
		{stokesOver(1, 30000, 30000, 30000, 1), impl.Frac{}},
	}
	for _, c := range cases {
		squares, ok := impl.StokesSquares(c.s)
		asTold(t, "StokesSquares", c.s, squares, ok, c.want, c.want != impl.Frac{})
	}
}

// Promise 39.
func TestStokesAlikeExchangedAndPure(t *testing.T) {
	eachStokesPair(func(a, b impl.Stokes) {
		alike := impl.StokesAlike(a, b)
		if want := wantStokesAlike(a, b); alike != want {
			t.Errorf("StokesAlike of %v and %v is not %v", a, b, want)
		}
		if impl.StokesAlike(b, a) != alike {
			t.Errorf("StokesAlike of %v and %v is %v, and not so exchanged", a, b, alike)
		}
		if !alike || a.S[0] == zero || b.S[0] == zero || !squaresTold(a) || !squaresTold(b) {
			return
		}
		if impl.StokesPure(a) != impl.StokesPure(b) {
			t.Errorf("%v and %v are alike, and just one is pure", a, b)
		}
	})
	eachNoneStokesPair(func(a, b impl.Stokes) {
		if impl.StokesAlike(a, b) {
			t.Errorf("StokesAlike of %v and %v holds", a, b)
		}
	})
}

// Promise 39: pairs told in numbers; at the end products that are none, though they are the same. The product of two numbers of one index is not asked.
func TestStokesAlikeNumbers(t *testing.T) {
	const m = partMax
	cases := []struct {
		a, b impl.Stokes
		want bool
	}{
		{noLight, noLight, true},
		{noLight, stokesOver(1, 0, 0, 0, 1), false},
		{noLight, stokesOver(0, 1, -2, 3, 1), true},
		{stokesOver(0, 1, 2, 0, 1), stokesOver(0, -2, -4, 0, 1), true},
		{stokesOver(0, 1, 2, 0, 1), stokesOver(0, 2, 4, 1, 1), false},
		{stokesOver(0, 1, 0, 0, 1), stokesOver(0, 0, 1, 0, 1), false},
		{stokesOver(0, 1, 0, 0, 1), stokesOver(0, 0, 0, 1, 1), false},
		{stokesOver(0, 0, 1, 0, 1), stokesOver(0, 0, 0, 1, 1), false},
		{stokesOver(1, 0, 0, 0, 1), stokesOver(1, 1, 0, 0, 1), false},
		{stokesOver(1, 0, 0, 0, 1), stokesOver(1, 0, 1, 0, 1), false},
		{stokesOver(1, 0, 0, 0, 1), stokesOver(1, 0, 0, 1, 1), false},
		{stokesOver(2, 1, 0, 0, 1), stokesOver(4, 2, 0, 0, 1), true},
		{stokesOver(2, 1, 0, 0, 1), stokesOver(-4, -2, 0, 0, 1), false},
		{stokesOver(-2, -1, 0, 0, 1), stokesOver(-4, -2, 0, 0, 1), true},
		{stokesOver(3, 1, 2, 2, 1), stokesOver(3, 1, 2, -2, 1), false},
		{stokesOver(3, 1, 2, 2, 5), stokesOver(3, 1, 2, 2, 7), true},
		{stokesOver(m, 0, 0, -m, 1), stokesOver(1, 0, 0, -1, m), true},
		{stokesOver(m, 0, 0, 0, 1), stokesOver(m, 0, 0, 0, 1), true},
		{stokesOver(1, 0, 0, 0, m), stokesOver(1, 0, 0, 0, m), true},
		{stokesOver(50000, 50000, 0, 0, 1), stokesOver(50000, 50000, 0, 0, 1), false},
		{stokesOver(0, 0, 50000, 50000, 1), stokesOver(0, 0, 50000, 50000, 1), false},
		{stokesOver(50000, 0, 0, -50000, 1), stokesOver(50000, 0, 0, -50000, 1), false},
		{stokesOver(1, 0, 1, 0, 50000), stokesOver(1, 0, 1, 0, 50000), false},
	}
	for _, c := range cases {
		if impl.StokesAlike(c.a, c.b) != c.want || impl.StokesAlike(c.b, c.a) != c.want {
			t.Errorf("StokesAlike of %v and %v is not %v", c.a, c.b, c.want)
		}
	}
}

// Promise 40.
func TestStokesMirrorKeepsThree(t *testing.T) {
	for _, a := range validStokes() {
		m, ok := impl.StokesMirror(a)
		asTold(t, "StokesMirror", a, m, ok, mirroredLast(a), true)
		if sum, sumOk := impl.FracAdd(a.S[3], m.S[3]); sumOk && sum != zero {
			t.Errorf("both last numbers of %v and %v add up to %v", a, m, sum)
		}
	}
	for _, a := range noneStokes() {
		m, ok := impl.StokesMirror(a)
		asTold(t, "StokesMirror", a, m, ok, impl.Stokes{}, false)
	}
}
