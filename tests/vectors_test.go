package tests

import (
	"testing"

	"loop.example/polarisedlight/impl"
)

// asTold fails the test unless a fraction or a vector that a function made of something is the one wanted, told or not.
func asTold[T comparable](t *testing.T, name string, of any, got T, ok bool, want T, wantOk bool) {
	t.Helper()
	if got != want || ok != wantOk {
		t.Errorf("%s of %v is %v, %v, not %v, %v", name, of, got, ok, want, wantOk)
	}
}

// productsTold reports whether both products on the way of JonesAlike are told.
func productsTold(a, b impl.Jones) bool {
	_, leftOk := impl.FracTimes(a.X, b.Y)
	_, rightOk := impl.FracTimes(a.Y, b.X)
	return leftOk && rightOk
}

// Promise 21.
func TestJonesValidAlikeToItself(t *testing.T) {
	for _, a := range validVectors() {
		if !impl.JonesValid(a) {
			t.Errorf("JonesValid of %v does not hold", a)
		}
		_, ok := impl.FracTimes(a.X, a.Y)
		if alike := impl.JonesAlike(a, a); alike != ok {
			t.Errorf("JonesAlike of %v and itself is %v", a, alike)
		}
	}
}

// Promise 21: a vector is valid if both fractions are, whichever they are.
func TestJonesValidOfFractions(t *testing.T) {
	valid := validFracs()
	all := append(validFracs(), noneFracs()...)
	for i, x := range all {
		for k, y := range all {
			if want := i < len(valid) && k < len(valid); impl.JonesValid(jones(x, y)) != want {
				t.Errorf("JonesValid of %v and %v is not %v", x, y, want)
			}
		}
	}
}

// Promises 21 and 25, and 29 in part: what is alike, and the same exchanged.
func TestJonesAlikeExchanged(t *testing.T) {
	eachPair(func(a, b impl.Jones) {
		alike := impl.JonesAlike(a, b)
		if want := wantJonesAlike(a, b); alike != want {
			t.Errorf("JonesAlike of %v and %v is not %v", a, b, want)
		}
		if impl.JonesAlike(b, a) != alike {
			t.Errorf("JonesAlike of %v and %v is %v, and not so exchanged", a, b, alike)
		}
	})
	eachNonePair(func(a, b impl.Jones) {
		if impl.JonesAlike(a, b) {
			t.Errorf("JonesAlike of %v and %v holds", a, b)
		}
	})
}

// Promises 21 and 25: dark vectors, vectors with one fraction 0, and products that are none though they are the same.
func TestJonesAlikePairs(t *testing.T) {
	const m = partMax
	great := jones(frac(m, 0, 1), frac(0, m, 1))
	cases := []struct {
		a, b impl.Jones
		want bool
	}{
		{dark, dark, true},
		{dark, alongX, false},
		{dark, alongY, false},
		{dark, oneHand, false},
		{dark, great, false},
		{alongX, jones(frac(0, -3, 7), zero), true},
		{alongY, jones(zero, frac(m, m, 1)), true},
		{alongX, alongY, false},
		{alongX, jones(one, one), false},
		{alongY, jones(one, one), false},
		{oneHand, jones(frac(0, 1, 1), frac(-1, 0, 1)), true},
		{oneHand, jones(one, frac(0, -1, 1)), false},
		{oneHand, great, true},
		{oneHand, oppositeBoth(great), true},
		{jones(frac(1, 0, 3), frac(1, 1, 2)), jones(frac(2, 0, 1), frac(3, 3, 1)), true},
		{jones(frac(1, 0, 3), frac(1, 1, 2)), jones(frac(2, 0, 1), frac(3, -3, 1)), false},
		{jones(frac(m, 0, 1), frac(1, 0, m)), jones(frac(m, 0, 1), frac(1, 0, m)), true},
		{great, great, false},
		{jones(frac(50000, 0, 1), frac(50000, 0, 1)), jones(frac(50000, 0, 1), frac(50000, 0, 1)), false},
		{jones(frac(1, 0, 50000), frac(1, 0, 50001)), jones(frac(1, 0, 50000), frac(1, 0, 50001)), false},
	}
	for _, c := range cases {
		if impl.JonesAlike(c.a, c.b) != c.want || impl.JonesAlike(c.b, c.a) != c.want {
			t.Errorf("JonesAlike of %v and %v is not %v", c.a, c.b, c.want)
		}
	}
}

// Promise 22.
func TestJonesPowerIsInnerOfItself(t *testing.T) {
	for _, a := range validVectors() {
		p, ok := impl.JonesPower(a)
		want, wantOk := wantJonesPower(a)
		asTold(t, "JonesPower", a, p, ok, want, wantOk)
		if !ok {
			continue
		}
		inner, innerOk := impl.JonesInner(a, a)
		asTold(t, "JonesInner", a, inner, innerOk, p, true)
		if sign, signOk := impl.FracCompare(p, zero); !signOk || sign < 0 || (sign == 0) != (a == dark) {
			t.Errorf("JonesPower of %v is %v", a, p)
		}
	}
	for _, a := range noneVectors() {
		p, ok := impl.JonesPower(a)
		asTold(t, "JonesPower", a, p, ok, impl.Frac{}, false)
	}
}

// Promise 22: powers told in numbers; the last ones are none, though that of the first of them would be 1.
func TestJonesPowerNumbers(t *testing.T) {
	const m = partMax
	cases := []struct {
		a    impl.Jones
		want impl.Frac
	}{
		{dark, zero},
		{alongX, one},
		{alongY, one},
		{oneHand, frac(2, 0, 1)},
		{jones(frac(3, 0, 5), frac(0, 4, 5)), one},
		{jones(frac(1, 1, 2), zero), frac(1, 0, 2)},
		{jones(zero, frac(1, -2, 3)), frac(5, 0, 9)},
		{jones(frac(1, 0, 2), frac(0, 0, 1)), frac(1, 0, 4)},
		{jones(frac(31622, 0, 1), frac(0, 31623, 1)), frac(1999965013, 0, 1)},
		{jones(frac(399, 0, 79601), frac(79600, 0, 79601)), impl.Frac{}},
		{jones(frac(m, 0, 1), zero), impl.Frac{}},
		{jones(zero, frac(1, 0, m)), impl.Frac{}},
		{jones(frac(31623, 0, 1), frac(31623, 0, 1)), impl.Frac{}},
	}
	for _, c := range cases {
		p, ok := impl.JonesPower(c.a)
		asTold(t, "JonesPower", c.a, p, ok, c.want, c.want != impl.Frac{})
	}
}

// Promise 23.
func TestJonesInnerExchangedAndBound(t *testing.T) {
	eachPair(func(a, b impl.Jones) {
		pair := [2]impl.Jones{a, b}
		inner, ok := impl.JonesInner(a, b)
		want, wantOk := wantJonesInner(a, b)
		asTold(t, "JonesInner", pair, inner, ok, want, wantOk)
		if !ok {
			return
		}
		other, otherOk := impl.JonesInner(b, a)
		asTold(t, "exchanged, JonesInner", pair, other, otherOk, mirrored(inner), true)
		powerA, okA := impl.JonesPower(a)
		powerB, okB := impl.JonesPower(b)
		power, powerOk := impl.FracPower(inner)
		most, mostOk := impl.FracTimes(powerA, powerB)
		if !okA || !okB || !powerOk || !mostOk {
			return
		}
		if sign, signOk := impl.FracCompare(power, most); !signOk || sign > 0 {
			t.Errorf("JonesInner of %v has the power %v, more than %v", pair, power, most)
		}
	})
	eachNonePair(func(a, b impl.Jones) {
		inner, ok := impl.JonesInner(a, b)
		asTold(t, "JonesInner", [2]impl.Jones{a, b}, inner, ok, impl.Frac{}, false)
	})
}

// Promise 23: inner products told in numbers; of the ones that are none, the first two would be 0 and 1.
func TestJonesInnerNumbers(t *testing.T) {
	const m = partMax
	great := jones(frac(50000, 0, 1), frac(50000, 0, 1))
	unit := jones(frac(399, 0, 79601), frac(79600, 0, 79601))
	cases := []struct {
		a, b impl.Jones
		want impl.Frac
	}{
		{dark, dark, zero},
		{dark, jones(frac(m, -m, 1), frac(1, 0, m)), zero},
		{alongX, alongY, zero},
		{oneHand, alongX, one},
		{oneHand, alongY, frac(0, 1, 1)},
		{alongY, oneHand, frac(0, -1, 1)},
		{oneHand, jones(one, frac(0, -1, 1)), zero},
		{oneHand, jones(frac(1, 2, 1), frac(3, 4, 5)), frac(9, -7, 5)},
		{jones(frac(1, 0, 2), frac(1, 0, 3)), jones(frac(0, 1, 1), frac(0, 0, 1)), frac(0, -1, 2)},
		{jones(frac(m, 0, 1), zero), jones(frac(1, 0, m), frac(m, 0, 1)), one},
		{great, jones(frac(50000, 0, 1), frac(-50000, 0, 1)), impl.Frac{}},
		{unit, unit, impl.Frac{}},
		{alongX, jones(frac(2, 0, 2), one), impl.Frac{}},
		{jones(frac(m, 0, 1), one), jones(one, one), impl.Frac{}},
	}
	for _, c := range cases {
		inner, ok := impl.JonesInner(c.a, c.b)
		asTold(t, "JonesInner", [2]impl.Jones{c.a, c.b}, inner, ok, c.want, c.want != impl.Frac{})
	}
}

// Promise 24.
func TestJonesAddExchangedAndPowers(t *testing.T) {
	eachPair(func(a, b impl.Jones) {
		pair := [2]impl.Jones{a, b}
		sum, ok := impl.JonesAdd(a, b)
		want, wantOk := wantJonesAdd(a, b)
		asTold(t, "JonesAdd", pair, sum, ok, want, wantOk)
		if !ok {
			return
		}
		other, otherOk := impl.JonesAdd(b, a)
		asTold(t, "exchanged, JonesAdd", pair, other, otherOk, sum, true)
		less, lessOk := impl.JonesAdd(a, oppositeBoth(b))
		together, togetherOk := powersTogether(sum, less)
		before, beforeOk := powersTogether(a, b)
		twice, twiceOk := impl.FracAdd(before, before)
		if lessOk && togetherOk && beforeOk && twiceOk && together != twice {
			t.Errorf("sum and difference of %v have together the power %v, not %v", pair, together, twice)
		}
	})
	eachNonePair(func(a, b impl.Jones) {
		sum, ok := impl.JonesAdd(a, b)
		asTold(t, "JonesAdd", [2]impl.Jones{a, b}, sum, ok, impl.Jones{}, false)
	})
}

// powersTogether returns the sum of the powers of two vectors, if all are told.
func powersTogether(a, b impl.Jones) (impl.Frac, bool) {
	powerA, okA := impl.JonesPower(a)
	powerB, okB := impl.JonesPower(b)
	sum, ok := impl.FracAdd(powerA, powerB)
	return sum, okA && okB && ok
}

// Promise 24: sums told in numbers; the last ones fail in one fraction alone.
func TestJonesAddNumbers(t *testing.T) {
	const m = partMax
	cases := []struct{ a, b, want impl.Jones }{
		{dark, dark, dark},
		{dark, oneHand, oneHand},
		{alongX, alongY, jones(one, one)},
		{oneHand, oppositeBoth(oneHand), dark},
		{jones(frac(1, 0, 2), frac(0, 1, 3)), jones(frac(1, 1, 3), frac(1, 0, 6)), jones(frac(5, 2, 6), frac(1, 2, 6))},
		{jones(frac(m-1, 0, 1), zero), jones(one, frac(0, -m, 1)), jones(frac(m, 0, 1), frac(0, -m, 1))},
		{jones(frac(m, 0, 1), zero), alongX, impl.Jones{}},
		{jones(zero, frac(0, -m, 1)), jones(one, frac(0, -1, 1)), impl.Jones{}},
		{jones(one, frac(1, 0, m)), jones(one, frac(1, 0, m-1)), impl.Jones{}},
	}
	for _, c := range cases {
		sum, ok := impl.JonesAdd(c.a, c.b)
		asTold(t, "JonesAdd", [2]impl.Jones{c.a, c.b}, sum, ok, c.want, c.want != impl.Jones{})
	}
}

// Promise 25.
func TestJonesTimesAlikeAndPower(t *testing.T) {
	for _, a := range validVectors() {
		for _, c := range validFracs() {
			b, ok := impl.JonesTimes(a, c)
			want, wantOk := wantJonesTimes(a, c)
			asTold(t, "JonesTimes", []any{a, c}, b, ok, want, wantOk)
			if !ok {
				continue
			}
			if alike := impl.JonesAlike(a, b); productsTold(a, b) && alike != (c != zero || a == dark) {
				t.Errorf("JonesAlike of %v and %v, which is %v times it, is %v", a, b, c, alike)
			}
			powerA, okA := impl.JonesPower(a)
			powerC, okC := impl.FracPower(c)
			power, powerOk := impl.JonesPower(b)
			if product, ok := impl.FracTimes(powerA, powerC); okA && okC && powerOk && ok && power != product {
				t.Errorf("JonesPower of %v times %v is %v, not %v", a, c, power, product)
			}
		}
	}
}

// Promise 25: a vector or a fraction that is none.
func TestJonesTimesOfNone(t *testing.T) {
	for _, a := range noneVectors() {
		for _, c := range append(noneFracs(), zero, one) {
			b, ok := impl.JonesTimes(a, c)
			asTold(t, "JonesTimes", []any{a, c}, b, ok, impl.Jones{}, false)
		}
	}
	for _, a := range validVectors() {
		for _, c := range noneFracs() {
			b, ok := impl.JonesTimes(a, c)
			asTold(t, "JonesTimes", []any{a, c}, b, ok, impl.Jones{}, false)
		}
	}
}

// Promise 25: multiples told in numbers; the last ones fail in one fraction alone.
func TestJonesTimesNumbers(t *testing.T) {
	const m = partMax
	cases := []struct {
		a    impl.Jones
		c    impl.Frac
		want impl.Jones
	}{
		{dark, frac(m, -m, 1), dark},
		{oneHand, zero, dark},
		{oneHand, one, oneHand},
		{oneHand, frac(0, 1, 1), jones(frac(0, 1, 1), frac(-1, 0, 1))},
		{jones(frac(1, 0, 2), frac(2, 1, 3)), frac(6, 0, 1), jones(frac(3, 0, 1), frac(4, 2, 1))},
		{jones(frac(1, 1, 2), zero), frac(1, -1, 2), jones(frac(1, 0, 2), zero)},
		{jones(frac(m, 0, 1), frac(0, m, 1)), frac(-1, 0, m), jones(frac(-1, 0, 1), frac(0, -1, 1))},
		{jones(frac(50001, 0, 1), one), frac(40000, 0, 1), impl.Jones{}},
		{jones(one, frac(50001, 0, 1)), frac(40000, 0, 1), impl.Jones{}},
		{jones(zero, frac(1, 0, 50001)), frac(1, 0, 40000), impl.Jones{}},
	}
	for _, c := range cases {
		b, ok := impl.JonesTimes(c.a, c.c)
		asTold(t, "JonesTimes", []any{c.a, c.c}, b, ok, c.want, c.want != impl.Jones{})
	}
}

// Promise 26.
func TestJonesCrossOrthogonal(t *testing.T) {
	for _, a := range validVectors() {
		b, ok := impl.JonesCross(a)
		asTold(t, "JonesCross", a, b, ok, jones(opposite(mirrored(a.Y)), mirrored(a.X)), true)
		if inner, innerOk := impl.JonesInner(a, b); innerOk && inner != zero {
			t.Errorf("JonesInner of %v and JonesCross of it is %v", a, inner)
		}
		power, powerOk := impl.JonesPower(a)
		other, otherOk := impl.JonesPower(b)
		asTold(t, "across, JonesPower", a, other, otherOk, power, powerOk)
		twice, twiceOk := impl.JonesCross(b)
		asTold(t, "twice, JonesCross", a, twice, twiceOk, oppositeBoth(a), true)
	}
	for _, a := range noneVectors() {
		b, ok := impl.JonesCross(a)
		asTold(t, "JonesCross", a, b, ok, impl.Jones{}, false)
	}
}

// Promise 26: vectors across told in numbers.
func TestJonesCrossNumbers(t *testing.T) {
	const m = partMax
	cases := []struct{ a, want impl.Jones }{
		{dark, dark},
		{alongX, alongY},
		{alongY, jones(frac(-1, 0, 1), zero)},
		{oneHand, jones(frac(0, 1, 1), one)},
		{jones(frac(1, 2, 3), frac(4, -5, 6)), jones(frac(-4, -5, 6), frac(1, -2, 3))},
		{jones(frac(m, -m, 1), frac(-m, m, m-1)), jones(frac(m, m, m-1), frac(m, m, 1))},
	}
	for _, c := range cases {
		b, ok := impl.JonesCross(c.a)
		asTold(t, "JonesCross", c.a, b, ok, c.want, true)
	}
}

// Promise 30 in part: mirrored, a vector leads back.
func TestJonesMirrorLeadsBack(t *testing.T) {
	for _, a := range validVectors() {
		m, ok := impl.JonesMirror(a)
		asTold(t, "JonesMirror", a, m, ok, mirroredBoth(a), true)
		back, backOk := impl.JonesMirror(m)
		asTold(t, "twice, JonesMirror", a, back, backOk, a, true)
	}
	for _, a := range noneVectors() {
		m, ok := impl.JonesMirror(a)
		asTold(t, "JonesMirror", a, m, ok, impl.Jones{}, false)
	}
}
