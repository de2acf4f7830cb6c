package tests

import (
	"slices"
	"testing"

	"loop.example/polarisedlight/impl"
)

// Promise 91.
func TestPortBrightIsTheFirstGreatest(t *testing.T) {
	found := [4]int{}
	for _, c := range portsCases() {
		of := c.of
		k, ok := impl.PortBright(of.a, of.b, of.v)
		want, wantOk := c.wantBright()
		asTold(t, "PortBright", of, k, ok, want, wantOk)
		if !ok {
			continue
		}
		found[k]++
		powers, _ := impl.PortFringes(of.a, of.b, of.v)
		for n, power := range powers {
			if order, _ := impl.FracCompare(power, powers[k]); order > 0 || order == 0 && n < k {
				t.Errorf("PortBright of %v is %d, and PortFringes %v", of, k, powers)
			}
		}
	}
	for k, n := range found {
		if n < 50 {
			t.Errorf("just %d were brightest at %d", n, k)
		}
	}
}

// Promise 91: phases told in numbers, also of equal greatest powers.
func TestPortBrightNumbers(t *testing.T) {
	diagonal := jones(one, one)
	cases := []struct {
		of   portsOf
		want int
	}{
		{portsOf{"", "", alongX}, 0},
		{portsOf{"", "r0:1", alongX}, 2},
		{portsOf{"", "w1:0:1", alongY}, 3},
		{portsOf{"w1:0:1", "", alongY}, 1},
		{portsOf{"", "r1:1", alongX}, 0},
		{portsOf{"", "a0:1", alongX}, 0},
		{portsOf{"a0:1", "a0:1", oneHand}, 0},
		{portsOf{"", "", dark}, 0},
		{portsOf{"", "w1:0:1", diagonal}, 0},
		{portsOf{"", "w1:0:3", diagonal}, 0},
		{portsOf{"", "w1:0:1 r0:1", diagonal}, 1},
		{portsOf{"", "w1:0:3 r0:1", diagonal}, 2},
		{portsOf{"", "r1:1", jones(frac(50000, 0, 1), zero)}, 0},
	}
	for _, c := range cases {
		k, ok := impl.PortBright(c.of.a, c.of.b, c.of.v)
		asTold(t, "PortBright", c.of, k, ok, c.want, true)
	}
}

// Promise 91: arms and vectors that are none, and interferometers of which one phase alone has a power that is none.
func TestPortBrightFails(t *testing.T) {
	check := func(of portsOf) {
		k, ok := impl.PortBright(of.a, of.b, of.v)
		asTold(t, "PortBright", of, k, ok, 0, false)
	}
	eachNoPorts(check)
	for _, of := range oneNonePhase() {
		check(of)
	}
}

// Promise 92.
func TestPortSeenIsOneIfDark(t *testing.T) {
	seen, dark := 0, 0
	for _, c := range portsCases() {
		of := c.of
		a, ok := impl.PortSeen(of.a, of.b, of.v)
		want, wantOk := c.wantSeen()
		asTold(t, "PortSeen", of, a, ok, want, wantOk)
		if !ok {
			continue
		}
		seen++
		least, _ := impl.FracCompare(a, zero)
		most, _ := impl.FracCompare(a, one)
		if a.Im != 0 || least < 0 || most > 0 {
			t.Errorf("PortSeen of %v is %v", of, a)
		}
		if a == one {
			dark++
		}
		if impl.PortDark(of.a, of.b, of.v) != (a == one) {
			t.Errorf("PortSeen of %v is %v, and PortDark not", of, a)
		}
	}
	if seen < 900 || dark < 70 {
		t.Errorf("just %d were seen, %d of them dark", seen, dark)
	}
}

// Promise 92: visibilities told in numbers.
func TestPortSeenNumbers(t *testing.T) {
	diagonal := jones(one, one)
	cases := []struct {
		of   portsOf
		want impl.Frac
	}{
		{portsOf{"", "", alongX}, one},
		{portsOf{"", "r0:1", oneHand}, one},
		{portsOf{"", "w1:0:1", alongY}, one},
		{portsOf{longArm, longArm, oneHand}, one},
		{portsOf{"", "r1:1", alongX}, zero},
		{portsOf{"", "a0:1", alongX}, zero},
		{portsOf{"a0:1", "", alongX}, zero},
		{portsOf{"f1:0", "f1:1", oneHand}, zero},
		{portsOf{"", "f1:0", diagonal}, frac(2, 0, 3)},
		{portsOf{"", "w1:0:1", diagonal}, frac(1, 0, 2)},
		{portsOf{"", "w1:0:3 r0:1", diagonal}, frac(1, 0, 2)},
		{portsOf{"", "a1:2", alongX}, frac(4, 0, 5)},
		{portsOf{"a1:3", "a2:3", oneHand}, frac(4, 0, 5)},
		{portsOf{"", "a1:100", alongX}, frac(200, 0, 10001)},
		{portsOf{"", "r2:1", alongX}, frac(3, 0, 5)},
		{portsOf{"", "", jones(frac(44721, 0, 1), zero)}, one},
	}
	for _, c := range cases {
		a, ok := impl.PortSeen(c.of.a, c.of.b, c.of.v)
		asTold(t, "PortSeen", c.of, a, ok, c.want, true)
	}
}

// Promise 92: arms and vectors that are none, no light at all, and a sum, a difference or a quotient that is none, each one alone.
func TestPortSeenFails(t *testing.T) {
	check := func(of portsOf) {
		a, ok := impl.PortSeen(of.a, of.b, of.v)
		asTold(t, "PortSeen", of, a, ok, impl.Frac{}, false)
	}
	eachNoPorts(check)
	for _, of := range slices.Concat(oneNonePhase(), []portsOf{{"", "", dark}, {"a0:1", "f1:0 f1:1", oneHand}, {"f1:0", "a0:1", alongY}}) {
		check(of)
	}
	cases := []struct {
		of              portsOf
		sum, difference bool
	}{
		{portsOf{"", "r1:1", jones(frac(50000, 0, 1), zero)}, false, true},
		{portsOf{"w4:0:1 f9:5", "w6:0:3 f5:9", jones(frac(2, 0, 5), frac(13, 1, 21))}, true, false},
		{portsOf{"f10:6", "r3:5", jones(frac(13, 2, 40), frac(16, 2, 7))}, true, true},
	}
	for _, c := range cases {
		powers, ok := impl.PortFringes(c.of.a, c.of.b, c.of.v)
		slices.SortFunc(powers, ordered)
		if !ok {
			t.Errorf("PortFringes of %v fails", c.of)
			continue
		}
		_, sumOk := wantAdd(powers[3], powers[0])
		_, differenceOk := wantLess(powers[3], powers[0])
		if sumOk != c.sum || differenceOk != c.difference {
			t.Errorf("the sum and the difference of %v are told: %v, %v", c.of, sumOk, differenceOk)
		}
		check(c.of)
	}
}

// Promise 93.
func TestPortDarkHasNoPower(t *testing.T) {
	dark := 0
	for _, c := range portsCases() {
		of := c.of
		holds := impl.PortDark(of.a, of.b, of.v)
		if holds != c.wantDark() {
			t.Errorf("PortDark of %v is %v", of, holds)
		}
		if !holds {
			continue
		}
		dark++
		if powers, ok := impl.PortFringes(of.a, of.b, of.v); !ok || !slices.Contains(powers, zero) {
			t.Errorf("PortDark of %v holds, and PortFringes is %v, %v", of, powers, ok)
		}
		if _, told := impl.PortFringes(of.b, of.a, of.v); told && !impl.PortDark(of.b, of.a, of.v) {
			t.Errorf("PortDark of %v does not hold for both arms exchanged", of)
		}
	}
	if dark < 100 {
		t.Errorf("just %d were dark", dark)
	}
}

// Promise 93: interferometers that are told, dark at just one phase, at all of them, or at none.
func TestPortDarkNumbers(t *testing.T) {
	cases := []struct {
		of   portsOf
		want bool
	}{
		{portsOf{"", "", alongX}, true},
		{portsOf{"", "r0:1", alongX}, true},
		{portsOf{"", "w1:0:1", alongY}, true},
		{portsOf{"", "w1:0:3", alongY}, true},
		{portsOf{"w2:1:1", "w2:1:1 w1:0:0", oneHand}, true},
		{portsOf{"", "", dark}, true},
		{portsOf{"a0:1", "a0:1", oneHand}, true},
		{portsOf{"f1:1", "a0:1", alongX}, true},
		{portsOf{"", "a0:1", alongX}, false},
		{portsOf{"", "a1:2", alongX}, false},
		{portsOf{"", "a99:100", alongX}, false},
		{portsOf{"", "r1:1", alongX}, false},
		{portsOf{"", "w1:0:1", jones(one, one)}, false},
		{portsOf{"", "f1:0", oneHand}, false},
		{portsOf{"", "", jones(frac(44721, 0, 1), zero)}, true},
		{portsOf{"", "", jones(frac(44722, 0, 1), zero)}, false},
	}
	for _, c := range cases {
		if impl.PortDark(c.of.a, c.of.b, c.of.v) != c.want {
			t.Errorf("PortDark of %v is not %v", c.of, c.want)
		}
	}
}

// Promise 93: arms and vectors that are none, and interferometers that are dark at a phase while the power of another one alone is none.
func TestPortDarkFails(t *testing.T) {
	check := func(of portsOf) {
		if impl.PortDark(of.a, of.b, of.v) {
			t.Errorf("PortDark of %v holds", of)
		}
	}
	eachNoPorts(check)
	for phase, of := range oneNonePhase() {
		if v, ok := impl.PortVector(of.a, of.b, (phase+2)%4, of.v, false); !ok || v != dark {
			t.Errorf("PortVector of %v is %v, %v", of, v, ok)
		}
		check(of)
	}
}

// Promises 94 and 95.
func TestPortKeepsThePower(t *testing.T) {
	kept := 0
	for _, c := range portsCases() {
		of := c.of
		_, powerOk := impl.JonesPower(of.v)
		var sums [4]bool
		for k := range 4 {
			powers, ok := bothPowers(of, k)
			_, sumOk := impl.FracAdd(powers[0], powers[1])
			sums[k] = ok && sumOk
		}
		for k := range 4 {
			holds := impl.PortKeeps(of.a, of.b, k, of.v)
			if holds != c.wantKeeps(k) || holds != (powerOk && sums[k]) {
				t.Errorf("PortKeeps of %v is %v", portOf{of, k, false}, holds)
			}
			if !holds {
				continue
			}
			kept++
			if _, ok := bothPowers(of, k); !ok {
				t.Errorf("PortKeeps of %v holds, and PortPowers fails", portOf{of, k, false})
			}
			if next := (k + 1) % 4; sums[next] && !impl.PortKeeps(of.a, of.b, next, of.v) {
				t.Errorf("PortKeeps of %v does not hold for the next phase", portOf{of, k, false})
			}
		}
	}
	if kept < 4000 {
		t.Errorf("just %d kept the power", kept)
	}
}

// Promises 94 and 95: interferometers that are told, whose powers add up to just the power of the vector, or to less.
func TestPortKeepsNumbers(t *testing.T) {
	for k := range 4 {
		for _, of := range []portsOf{
			{"", "", alongX}, {"", "", dark}, {"r2:1", "w1:1:1", oneHand}, {"", "r1:1", jones(frac(1, 2, 3), one)}, {longArm, longArm, alongY}, {"", "", jones(frac(44720, 0, 1), zero)}, {"", "r1:1", jones(frac(44721, 0, 1), zero)},
			{"", "f1:0", oneHand}, {"f1:0", "", oneHand}, {"", "a0:1", alongX}, {"a0:1", "a0:1", alongX}, {"a99:100", "", alongX}, {"", "a99:100", alongX}, {"f1:0", "f1:1", alongX},
		} {
			if !impl.PortKeeps(of.a, of.b, k, of.v) {
				t.Errorf("PortKeeps of %v does not hold", portOf{of, k, false})
			}
		}
	}
}

// Promises 94 and 95: arms, vectors and phases that are none, and a power of the vector, a sum, or a power at one of both ports that is none.
func TestPortKeepsFails(t *testing.T) {
	check := func(of portsOf, k int) {
		if impl.PortKeeps(of.a, of.b, k, of.v) {
			t.Errorf("PortKeeps of %v holds", portOf{of, k, false})
		}
	}
	eachNoPorts(func(of portsOf) { check(of, 0); check(of, 1) })
	eachNoPhase(check)
	great, odd := jones(frac(50000, 0, 1), zero), jones(frac(1, 1, 14), frac(2, 1, 27))
	for _, of := range []portsOf{{"a1:2", "a1:2", great}, {"a0:1", "a0:1", great}, {"a19:29", "a5:8", odd}} {
		if powers, ok := bothPowers(of, 0); !ok {
			t.Errorf("PortPowers of %v is %v, %v", of, powers, ok)
		}
		check(of, 0)
	}
	if power, ok := impl.JonesPower(odd); !ok {
		t.Errorf("JonesPower of %v is %v, %v", odd, power, ok)
	}
	for _, of := range oneNonePhase() {
		for k := range 4 {
			check(of, k)
		}
	}
}

// Promise 96.
func TestPortTableIsPure(t *testing.T) {
	compared, pure := 0, 0
	for _, c := range portsCases() {
		of := c.of
		for k := range 4 {
			s, ok := impl.PortTable(of.a, of.b, k, of.v)
			want, wantOk := c.wantTable(k)
			asTold(t, "PortTable", portOf{of, k, false}, s, ok, want, wantOk)
			if !ok {
				continue
			}
			if first, _, powersOk := impl.PortPowers(of.a, of.b, k, of.v); powersOk {
				compared++
				asTold(t, "the first number of PortTable", portOf{of, k, false}, s.S[0], ok, first, powersOk)
			}
			if squaresTold(s) {
				pure++
				if !impl.StokesPure(s) {
					t.Errorf("PortTable of %v is %v, not pure", portOf{of, k, false}, s)
				}
			}
		}
	}
	if compared < 4000 || pure < 3500 {
		t.Errorf("just %d were compared, and %d pure", compared, pure)
	}
}

// Promise 96: four numbers told in numbers, also where those of the second port would fail.
func TestPortTableNumbers(t *testing.T) {
	great := jones(frac(44722, 0, 1), zero)
	cases := []struct {
		of   portsOf
		k    int
		want impl.Stokes
	}{
		{portsOf{"", "", alongX}, 0, stokesOver(1, 1, 0, 0, 1)},
		{portsOf{"", "", alongX}, 1, stokesOver(1, 1, 0, 0, 2)},
		{portsOf{"", "", alongX}, 2, noLight},
		{portsOf{"", "", oneHand}, 3, stokesOver(1, 0, 0, -1, 1)},
		{portsOf{"", "r1:1", alongX}, 0, stokesOver(1, 0, 1, 0, 2)},
		{portsOf{"", "r1:1", alongX}, 1, stokesOver(1, 0, 0, -1, 2)},
		{portsOf{"", "r1:1", alongX}, 2, stokesOver(1, 0, -1, 0, 2)},
		{portsOf{"", "r1:1", alongX}, 3, stokesOver(1, 0, 0, 1, 2)},
		{portsOf{"r1:1", "", alongX}, 1, stokesOver(1, 0, 0, 1, 2)},
		{portsOf{"", "f1:0", jones(one, one)}, 0, stokesOver(5, 3, 4, 0, 4)},
		{portsOf{"a0:1", "", alongY}, 3, stokesOver(1, -1, 0, 0, 4)},
		{portsOf{"", "", dark}, 1, noLight},
		{portsOf{"", "", great}, 2, noLight},
		{portsOf{"", "", great}, 1, stokesOver(1000028642, 1000028642, 0, 0, 1)},
		{portsOf{longArm, longArm, alongX}, 0, stokesOver(25, -7, 24, 0, 25)},
	}
	for _, c := range cases {
		s, ok := impl.PortTable(c.of.a, c.of.b, c.k, c.of.v)
		asTold(t, "PortTable", portOf{c.of, c.k, false}, s, ok, c.want, true)
	}
}

// Promise 96: arms, vectors and phases that are none, a vector at the first port that is none, and one whose four numbers are.
func TestPortTableFails(t *testing.T) {
	check := func(of portsOf, k int) {
		s, ok := impl.PortTable(of.a, of.b, k, of.v)
		asTold(t, "PortTable", portOf{of, k, false}, s, ok, impl.Stokes{}, false)
	}
	eachNoPorts(func(of portsOf) { check(of, 0); check(of, 3) })
	eachNoPhase(check)
	check(portsOf{"", "", jones(frac(partMax, 0, 1), zero)}, 0)
	check(portsOf{"", "", jones(frac(44722, 0, 1), zero)}, 0)
	// Their powers are 10/9 and 0, but its X times Y mirrored is none.
	unlike := portsOf{"", "", jones(frac(800059991, 599820000, 999940009), frac(1, 0, 3))}
	powers, ok := bothPowers(unlike, 0)
	asTold(t, "PortPowers", portOf{unlike, 0, false}, powers, ok, [2]impl.Frac{frac(10, 0, 9), zero}, true)
	check(unlike, 0)
}
