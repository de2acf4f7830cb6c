package tests

import (
	"runtime"
	"slices"
	"testing"

	"loop.example/polarisedlight/impl"
)

// bothPowers returns what PortPowers returns, as a pair.
func bothPowers(of portsOf, k int) ([2]impl.Frac, bool) {
	first, second, ok := impl.PortPowers(of.a, of.b, k, of.v)
	return [2]impl.Frac{first, second}, ok
}

// Promise 88.
func TestPortVectorIsHalfOfTheArm(t *testing.T) {
	added := 0
	for _, c := range portsCases() {
		of := c.of
		for k := range 4 {
			first, ok := impl.PortVector(of.a, of.b, k, of.v, false)
			asTold(t, "PortVector", portOf{of, k, false}, first, ok, c.at[k][0].v, c.at[k][0].ok)
			second, secondOk := impl.PortVector(of.a, of.b, k, of.v, true)
			asTold(t, "PortVector", portOf{of, k, true}, second, secondOk, c.at[k][1].v, c.at[k][1].ok)
			if sum, sumOk := impl.JonesAdd(first, second); ok && secondOk && sumOk {
				added++
				out, outOk := impl.BenchRun(of.a, of.v)
				asTold(t, "both vectors of PortVector", portOf{of, k, false}, sum, sumOk, out, outOk)
			}
		}
	}
	if added < 5500 {
		t.Errorf("just %d sums were told", added)
	}
}

// Promise 88: arms, vectors and phases that are none.
func TestPortVectorOfNone(t *testing.T) {
	for _, second := range []bool{false, true} {
		check := func(of portsOf, k int) {
			v, ok := impl.PortVector(of.a, of.b, k, of.v, second)
			asTold(t, "PortVector", portOf{of, k, second}, v, ok, impl.Jones{}, false)
		}
		eachNoPorts(func(of portsOf) { check(of, 0); check(of, 3) })
		eachNoPhase(check)
	}
}

// Promise 88: vectors told in numbers, also of phases beyond a half, and where the other port fails.
func TestPortVectorNumbers(t *testing.T) {
	const m = partMax
	half := frac(1, 0, 2)
	great := jones(frac(m, 0, 1), frac(0, -m, 1))
	cases := []struct {
		portOf
		want impl.Jones
	}{
		{portOf{portsOf{"", "", alongX}, 0, false}, alongX},
		{portOf{portsOf{"", "", alongX}, 0, true}, dark},
		{portOf{portsOf{"", "", alongX}, 1, false}, jones(frac(1, 1, 2), zero)},
		{portOf{portsOf{"", "", alongX}, 1, true}, jones(frac(1, -1, 2), zero)},
		{portOf{portsOf{"", "", alongX}, 2, false}, dark},
		{portOf{portsOf{"", "", alongX}, 2, true}, alongX},
		{portOf{portsOf{"", "", alongX}, 3, false}, jones(frac(1, -1, 2), zero)},
		{portOf{portsOf{"", "", alongX}, 3, true}, jones(frac(1, 1, 2), zero)},
		{portOf{portsOf{"", "r1:1", alongX}, 0, false}, jones(half, half)},
		{portOf{portsOf{"", "r1:1", alongX}, 0, true}, jones(half, frac(-1, 0, 2))},
		{portOf{portsOf{"", "r1:1", alongX}, 1, false}, jones(half, frac(0, 1, 2))},
		{portOf{portsOf{"", "r1:1", alongX}, 3, false}, jones(half, frac(0, -1, 2))},
		{portOf{portsOf{"", "r1:1", alongX}, 3, true}, jones(half, frac(0, 1, 2))},
		{portOf{portsOf{"r1:1", "", alongX}, 1, false}, jones(frac(0, 1, 2), half)},
		{portOf{portsOf{"r1:1", "", alongX}, 1, true}, jones(frac(0, -1, 2), half)},
		{portOf{portsOf{"a0:1", "", oneHand}, 0, false}, jones(half, frac(0, 1, 2))},
		{portOf{portsOf{"a0:1", "", oneHand}, 0, true}, jones(frac(-1, 0, 2), frac(0, -1, 2))},
		{portOf{portsOf{"a0:1", "", oneHand}, 3, false}, jones(frac(0, -1, 2), half)},
		{portOf{portsOf{"", "a0:1", oneHand}, 3, true}, jones(half, frac(0, 1, 2))},
		{portOf{portsOf{"f1:0", "a1:3", oneHand}, 2, false}, jones(frac(1, 0, 3), frac(0, -1, 6))},
		{portOf{portsOf{longArm, "", alongY}, 0, false}, jones(frac(0, -2, 5), frac(5, 3, 10))},
		{portOf{portsOf{"", longArm, alongY}, 1, true}, jones(frac(-2, 0, 5), frac(4, 0, 5))},
		{portOf{portsOf{"", "", dark}, 3, true}, dark},
		{portOf{portsOf{rotatorsOf(99, 97, 93), "", dark}, 1, false}, dark},
		{portOf{portsOf{"", "", great}, 0, true}, dark},
		{portOf{portsOf{"", "", great}, 2, false}, dark},
		{portOf{portsOf{"", "", great}, 1, false}, jones(frac(m/2, m/2, 1), frac(m/2, -m/2, 1))},
		{portOf{portsOf{"a99:100", "a1:100", jones(frac(1, 0, m/100), zero)}, 0, false}, jones(frac(1, 0, m/50), zero)},
		{portOf{portsOf{"a99:100", "a1:100", jones(frac(1, 0, m/100), zero)}, 2, false}, jones(frac(49, 0, m), zero)},
	}
	for _, c := range cases {
		v, ok := impl.PortVector(c.a, c.b, c.k, c.v, c.second)
		asTold(t, "PortVector", c.portOf, v, ok, c.want, true)
	}
}

// Promise 88: fractions on the way that are none, in just one arm, in the sum and in the difference, though half of them would be told, and in the halves alone.
func TestPortVectorFails(t *testing.T) {
	const m = partMax
	great := jones(frac(m, 0, 1), frac(0, -m, 1))
	fine := jones(frac(1, 0, m/100), zero)
	least := jones(frac(1, 0, m), zero)
	for _, of := range []portOf{
		{portsOf{rotatorsOf(99, 97, 93), "", alongX}, 0, false},
		{portsOf{"", rotatorsOf(99, 97, 93), alongX}, 0, true},
		{portsOf{rotatorsOf(99, 97, 93), "a0:1", alongX}, 1, false},
		{portsOf{"", "", great}, 0, false},
		{portsOf{"", "", great}, 2, true},
		{portsOf{"", "r0:1", great}, 0, true},
		{portsOf{"", "r0:1", great}, 2, false},
		{portsOf{"f1:1", "f1:1", great}, 0, false},
		{portsOf{"f1:0", "f1:0", great}, 2, true},
		{portsOf{"a99:100", "a1:100", fine}, 1, false},
		{portsOf{"a99:100", "a1:100", fine}, 3, true},
		{portsOf{"", "a0:1", least}, 0, false},
		{portsOf{"", "a0:1", least}, 0, true},
		{portsOf{"", "", least}, 1, false},
	} {
		v, ok := impl.PortVector(of.a, of.b, of.k, of.v, of.second)
		asTold(t, "PortVector", of, v, ok, impl.Jones{}, false)
	}
}

// Promise 88: no arm runs on behind a call, also where one of both or both are none.
func TestPortVectorLeavesNoArmRunning(t *testing.T) {
	before := runtime.NumGoroutine()
	for range 2000 {
		for _, of := range []portsOf{{"x", "y", alongX}, {"x", "", alongX}, {"", "x", alongX}, {"", "", jones(impl.Frac{}, zero)}, {"", "", alongX}} {
			impl.PortVector(of.a, of.b, 1, of.v, false)
		}
	}
	// The last ones may still be on their way out.
	if after := runtime.NumGoroutine(); after > before+100 {
		t.Errorf("%d goroutines are left of %d", after, before)
	}
}

// Promise 89.
func TestPortPowersAreThoseOfTheArms(t *testing.T) {
	added, turned := 0, 0
	for _, c := range portsCases() {
		of := c.of
		ofFirst, _ := impl.JonesPower(c.first)
		ofSecond, _ := impl.JonesPower(c.second)
		ofBoth, ofBothOk := impl.FracAdd(ofFirst, ofSecond)
		for k := range 4 {
			powers, ok := bothPowers(of, k)
			want, wantOk := c.wantPowers(k)
			asTold(t, "PortPowers", portOf{of, k, false}, powers, ok, want, wantOk)
			if sum, sumOk := impl.FracAdd(powers[0], powers[1]); sumOk && ofBothOk {
				if twice, twiceOk := impl.FracAdd(sum, sum); twiceOk {
					added++
					asTold(t, "twice both of PortPowers", portOf{of, k, false}, twice, twiceOk, ofBoth, ofBothOk)
				}
			}
			other, otherOk := bothPowers(of, (k+2)%4)
			if ok || otherOk {
				turned++
				asTold(t, "PortPowers half a turn on", portOf{of, k, false}, other, otherOk, [2]impl.Frac{powers[1], powers[0]}, ok)
			}
		}
	}
	if added < 4000 || turned < 4000 {
		t.Errorf("just %d sums were told, and %d powers", added, turned)
	}
}

// Promise 89: arms, vectors and phases that are none.
func TestPortPowersOfNone(t *testing.T) {
	check := func(of portsOf, k int) {
		powers, ok := bothPowers(of, k)
		asTold(t, "PortPowers", portOf{of, k, false}, powers, ok, [2]impl.Frac{}, false)
	}
	eachNoPorts(func(of portsOf) { check(of, 0); check(of, 2) })
	eachNoPhase(check)
}

// Promise 89: powers told in numbers.
func TestPortPowersNumbers(t *testing.T) {
	half := frac(1, 0, 2)
	cases := []struct {
		of   portsOf
		k    int
		want [2]impl.Frac
	}{
		{portsOf{"", "", alongX}, 0, [2]impl.Frac{one, zero}},
		{portsOf{"", "", alongX}, 1, [2]impl.Frac{half, half}},
		{portsOf{"", "", alongX}, 2, [2]impl.Frac{zero, one}},
		{portsOf{"", "", alongX}, 3, [2]impl.Frac{half, half}},
		{portsOf{"", "", oneHand}, 0, [2]impl.Frac{frac(2, 0, 1), zero}},
		{portsOf{"", "w1:0:1", alongY}, 1, [2]impl.Frac{zero, one}},
		{portsOf{"", "w1:0:1", alongY}, 3, [2]impl.Frac{one, zero}},
		{portsOf{"", "w1:0:3", alongY}, 1, [2]impl.Frac{one, zero}},
		{portsOf{"w1:0:1", "", alongY}, 1, [2]impl.Frac{one, zero}},
		{portsOf{"", "w1:0:1", jones(one, one)}, 3, [2]impl.Frac{frac(3, 0, 2), half}},
		{portsOf{"", "f1:0", jones(one, one)}, 0, [2]impl.Frac{frac(5, 0, 4), frac(1, 0, 4)}},
		{portsOf{"", "f1:0", jones(one, one)}, 3, [2]impl.Frac{frac(3, 0, 4), frac(3, 0, 4)}},
		{portsOf{"a0:1", "a0:1", oneHand}, 1, [2]impl.Frac{zero, zero}},
		{portsOf{"", "", dark}, 2, [2]impl.Frac{zero, zero}},
		{portsOf{"", "", jones(frac(44720, 0, 1), zero)}, 2, [2]impl.Frac{zero, frac(1999878400, 0, 1)}},
		{portsOf{"", "", jones(frac(44722, 0, 1), zero)}, 3, [2]impl.Frac{frac(1000028642, 0, 1), frac(1000028642, 0, 1)}},
	}
	for _, c := range cases {
		powers, ok := bothPowers(c.of, c.k)
		asTold(t, "PortPowers", portOf{c.of, c.k, false}, powers, ok, c.want, true)
	}
}

// Promise 89: a vector or a power that is none at just one of both ports.
func TestPortPowersFails(t *testing.T) {
	for _, of := range []portsOf{{"", "", jones(frac(44722, 0, 1), zero)}, {"", "", jones(frac(partMax, 0, 1), zero)}, {"", "r0:1", jones(zero, frac(0, 44722, 1))}, {rotatorsOf(99, 97, 93), "", alongX}} {
		for _, k := range []int{0, 2} {
			powers, ok := bothPowers(of, k)
			asTold(t, "PortPowers", portOf{of, k, false}, powers, ok, [2]impl.Frac{}, false)
		}
	}
}

// Promise 90.
func TestPortFringesAreTheFirstPowers(t *testing.T) {
	compared := 0
	for _, c := range portsCases() {
		of := c.of
		powers, ok := impl.PortFringes(of.a, of.b, of.v)
		want, wantOk := c.wantFringes()
		if !slices.Equal(powers, want) || ok != wantOk {
			t.Errorf("PortFringes of %v is %v, %v, not %v, %v", of, powers, ok, want, wantOk)
		}
		if !ok || len(powers) != 4 {
			continue
		}
		even, evenOk := impl.FracAdd(powers[0], powers[2])
		odd, oddOk := impl.FracAdd(powers[1], powers[3])
		if evenOk && oddOk {
			compared++
			asTold(t, "the first and the third of PortFringes", of, even, evenOk, odd, oddOk)
		}
		for k, power := range powers {
			if first, _, firstOk := impl.PortPowers(of.a, of.b, k, of.v); firstOk {
				asTold(t, "PortFringes", portOf{of, k, false}, power, ok, first, firstOk)
			}
		}
	}
	if compared < 1000 {
		t.Errorf("just %d sums were compared", compared)
	}
}

// Promise 90: arms and vectors that are none, and interferometers of which one phase alone has a vector or a power that is none.
func TestPortFringesFails(t *testing.T) {
	check := func(of portsOf) {
		if powers, ok := impl.PortFringes(of.a, of.b, of.v); ok || len(powers) != 0 {
			t.Errorf("PortFringes of %v is %v, %v", of, powers, ok)
		}
	}
	eachNoPorts(check)
	for _, of := range oneNonePhase() {
		check(of)
	}
	check(portsOf{"", "", jones(frac(partMax, 0, 1), zero)})
	check(portsOf{"a99:100", "a1:100", jones(frac(1, 0, partMax/100), zero)})
}

// oneNonePhase returns interferometers of which the power at the first port is none for one phase alone, for each of the four.
func oneNonePhase() []portsOf {
	great := jones(zero, frac(44722, 0, 1))
	return []portsOf{{"", "", great}, {"", "w1:0:3", great}, {"", "w1:0:2", great}, {"", "w1:0:1", great}}
}

// Promise 90: each phase that is none alone is the one that it is meant to be, so that each one is asked.
func TestPortFringesOfOneNonePhase(t *testing.T) {
	for phase, of := range oneNonePhase() {
		for k := range 4 {
			v, ok := impl.PortVector(of.a, of.b, k, of.v, false)
			if _, powerOk := impl.JonesPower(v); !ok || powerOk != (k != phase) {
				t.Errorf("the power of %v for the phase %d is told: %v", of, k, powerOk)
			}
		}
	}
}

// Promise 90: powers told in numbers, in memory of their own.
func TestPortFringesNumbers(t *testing.T) {
	half, quarter := frac(1, 0, 2), frac(1, 0, 4)
	cases := []struct {
		of   portsOf
		want [4]impl.Frac
	}{
		{portsOf{"", "", alongX}, [4]impl.Frac{one, half, zero, half}},
		{portsOf{"", "r0:1", alongX}, [4]impl.Frac{zero, half, one, half}},
		{portsOf{"", "w1:0:1", alongY}, [4]impl.Frac{half, zero, half, one}},
		{portsOf{"w1:0:1", "", alongY}, [4]impl.Frac{half, one, half, zero}},
		{portsOf{"", "r1:1", alongX}, [4]impl.Frac{half, half, half, half}},
		{portsOf{"", "a0:1", alongX}, [4]impl.Frac{quarter, quarter, quarter, quarter}},
		{portsOf{"a0:1", "f1:0 f1:1", oneHand}, [4]impl.Frac{zero, zero, zero, zero}},
		{portsOf{"", "", dark}, [4]impl.Frac{zero, zero, zero, zero}},
		{portsOf{"", "f1:0", jones(one, one)}, [4]impl.Frac{frac(5, 0, 4), frac(3, 0, 4), quarter, frac(3, 0, 4)}},
		{portsOf{"", "w1:0:1", jones(one, one)}, [4]impl.Frac{frac(3, 0, 2), half, half, frac(3, 0, 2)}},
		{portsOf{longArm, longArm, alongX}, [4]impl.Frac{one, half, zero, half}},
	}
	for _, c := range cases {
		powers, ok := impl.PortFringes(c.of.a, c.of.b, c.of.v)
		if !ok || !slices.Equal(powers, c.want[:]) {
			t.Errorf("PortFringes of %v is %v, %v, not %v", c.of, powers, ok, c.want)
		}
		_ = append(powers, frac(9, 9, 1))
		for k := range powers {
			powers[k] = frac(7, 7, 1)
		}
		if again, againOk := impl.PortFringes(c.of.a, c.of.b, c.of.v); !againOk || !slices.Equal(again, c.want[:]) {
			t.Errorf("PortFringes of %v is %v, %v behind a change of its result", c.of, again, againOk)
		}
	}
}
