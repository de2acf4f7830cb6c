package tests

import (
	"slices"
	"strings"
	"sync"

	"loop.example/polarisedlight/impl"
)

// portsOf is an interferometer, and a vector that meets both of its arms.
type portsOf struct {
	a, b string
	v    impl.Jones
}

// portOf is an interferometer with a phase, and whether its second port is meant.
type portOf struct {
	portsOf
	k      int
	second bool
}

// port is what leaves at a port for a phase, and whether it is told: the vector, and its power.
type port struct {
	v       impl.Jones
	ok      bool
	power   impl.Frac
	powerOk bool
}

// portsCase is an interferometer with a valid vector, with what leaves at both ports, the first one first, for each phase, and the vectors behind both arms.
type portsCase struct {
	of            portsOf
	at            [4][2]port
	first, second impl.Jones
}

const (
	// Twelve pieces, the most that a bench has, and one more; both make the same of light.
	longArm = "r1:0 r1:0 r1:0 r1:0 r1:0 r1:0 r1:0 r1:0 r1:0 r1:0 w1:0:1 r2:1"
	pastArm = "r1:0 " + longArm
)

// armTexts returns benches as arms: those that change nothing, the phase alone, the direction, and the power; those that leave no light, and those that are told for few vectors or none but the dark one.
func armTexts() []string {
	return []string{
		"", "a1:1", "r0:1", "w1:0:1", "w1:0:2", "w1:0:3", "w1:1:1", "w2:1:1", "r1:1", "r1:-1", "r2:1", "r-3:1", "f1:0", "f0:1", "f2:1", "f1:1", "a1:2", "a2:3", "a99:100", "a0:1", "f1:0 f1:1", "f1:0 r2:1 a1:2",
		"w1:0:1 r1:1 w2:1:3", "r100:99", rotatorsOf(99, -99, 97, -97, 93, -93), rotatorsOf(99, 97, 93), longArm, strings.TrimSpace(strings.Repeat("f1:1 ", 12)),
	}
}

// noArms returns what is no arm for any vector: some texts that are no benches, and benches with a fader.
func noArms() []string {
	return []string{" ", "x", "r1:0 ", "r01:0", "r0:0", "w1:0:4", "a2:1", pastArm, "d1:1", "d0:1", "r1:0 d1:2", "d1:2 a0:1", "a0:1 d1:1", elevenPieces(), twelvePieces()}
}

// portVectors returns vectors with small parts, for which most is told, ahead of those with great ones.
func portVectors() []impl.Jones {
	parts := fracs([][3]int{{0, 0, 1}, {1, 0, 1}, {0, 1, 1}, {-1, 0, 1}, {1, 1, 1}, {3, -4, 5}, {-2, 0, 3}, {1, 2, 7}})
	var list []impl.Jones
	for _, x := range parts {
		for _, y := range parts {
			list = append(list, jones(x, y))
		}
	}
	return append(list, validVectors()...)
}

// portsCases returns all pairs of arms with some vectors each; every vector meets many pairs. All tests use the same ones, since to reckon them takes long.
var portsCases = sync.OnceValue(func() []portsCase {
	texts, vectors := armTexts(), portVectors()
	runs := make([][]impl.Jones, len(texts))
	told := make([][]bool, len(texts))
	for i, s := range texts {
		for _, v := range vectors {
			out, ok := wantBenchRun(s, v)
			runs[i], told[i] = append(runs[i], out), append(told[i], ok)
		}
	}
	var list []portsCase
	for i, a := range texts {
		for j, b := range texts {
			for k, v := range vectors {
				if (i+j+k)%61 == 0 {
					list = append(list, portsCaseOf(portsOf{a, b, v}, runs[i][k], runs[j][k], told[i][k] && told[j][k]))
				}
			}
		}
	}
	return list
})

// portsCaseOf returns the case of an interferometer and a vector, with the vectors behind both arms, if both are told.
func portsCaseOf(of portsOf, first, second impl.Jones, told bool) portsCase {
	c := portsCase{of: of, first: first, second: second}
	for k := range c.at {
		if told {
			c.at[k] = [2]port{wantPort(first, second, k, wantAdd), wantPort(first, second, k, wantLess)}
		}
	}
	return c
}

// wantPort returns what leaves at a port for a phase from 0 to 3: half of the sum or of the difference.
func wantPort(first, second impl.Jones, k int, at func(a, b impl.Frac) (impl.Frac, bool)) port {
	delayed, _ := wantJonesTimes(second, fracOfPhase(k))
	x, xOk := at(first.X, delayed.X)
	y, yOk := at(first.Y, delayed.Y)
	if !xOk || !yOk {
		return port{}
	}
	v, ok := wantJonesTimes(jones(x, y), frac(1, 0, 2))
	if !ok {
		return port{}
	}
	power, powerOk := wantJonesPower(v)
	return port{v, ok, power, powerOk}
}

// eachNoPorts calls check with what is no interferometer with a vector, whatever the phase is: arms one or both of which are none for it, and what is no vector.
func eachNoPorts(check func(of portsOf)) {
	for _, s := range noneTexts() {
		check(portsOf{s, "", oneHand})
		check(portsOf{"", s, oneHand})
	}
	for _, s := range noArms() {
		for _, other := range []string{"", "a0:1", s} {
			for _, v := range []impl.Jones{oneHand, dark} {
				check(portsOf{s, other, v})
				check(portsOf{other, s, v})
			}
		}
	}
	for _, v := range noneVectors() {
		for _, s := range []string{"", "a0:1", "f1:0", "r2:1"} {
			check(portsOf{s, "", v})
			check(portsOf{"", s, v})
			check(portsOf{s, s, v})
		}
	}
	for _, other := range []string{"", "a0:1", "f1:0"} {
		// Their vectors on the way are none.
		for _, of := range []portsOf{{rotatorsOf(99, 97, 93), other, alongX}, {"a1:2 a0:1", other, jones(frac(1, 0, partMax), zero)}} {
			check(of)
			check(portsOf{of.b, of.a, of.v})
		}
	}
}

// eachNoPhase calls check with interferometers and what is no phase.
func eachNoPhase(check func(of portsOf, k int)) {
	for _, k := range noPhases() {
		for _, s := range []string{"", "a0:1", "w1:0:1", "f1:0"} {
			check(portsOf{s, "", oneHand}, k)
			check(portsOf{"", s, alongX}, k)
			check(portsOf{s, s, dark}, k)
		}
	}
}

// wantPowers returns the powers at both ports for a phase from 0 to 3.
func (c portsCase) wantPowers(k int) ([2]impl.Frac, bool) {
	first, second := c.at[k][0], c.at[k][1]
	if !first.powerOk || !second.powerOk {
		return [2]impl.Frac{}, false
	}
	return [2]impl.Frac{first.power, second.power}, true
}

// wantFringes returns the powers at the first port for all phases.
func (c portsCase) wantFringes() ([]impl.Frac, bool) {
	var powers []impl.Frac
	for k := range c.at {
		if !c.at[k][0].powerOk {
			return nil, false
		}
		powers = append(powers, c.at[k][0].power)
	}
	return powers, true
}

// ordered returns -1, 0 or 1 if a real exact fraction is less than another one, the same, or greater.
func ordered(a, b impl.Frac) int {
	return numbersOf(a).x.Cmp(numbersOf(b).x)
}

// wantBright returns the first phase with the greatest power.
func (c portsCase) wantBright() (int, bool) {
	powers, ok := c.wantFringes()
	if !ok {
		return 0, false
	}
	return slices.IndexFunc(powers, func(a impl.Frac) bool {
		return !slices.ContainsFunc(powers, func(b impl.Frac) bool { return ordered(a, b) < 0 })
	}), true
}

// wantSeen returns the visibility.
func (c portsCase) wantSeen() (impl.Frac, bool) {
	powers, ok := c.wantFringes()
	if !ok {
		return impl.Frac{}, false
	}
	slices.SortFunc(powers, ordered)
	difference, differenceOk := wantLess(powers[3], powers[0])
	sum, sumOk := wantAdd(powers[3], powers[0])
	if !differenceOk || !sumOk {
		return impl.Frac{}, false
	}
	return wantOver(difference, sum)
}

// wantDark reports whether a power at the first port is 0.
func (c portsCase) wantDark() bool {
	powers, ok := c.wantFringes()
	return ok && slices.Contains(powers, zero)
}

// wantKeeps reports whether the powers at both ports for a phase from 0 to 3 add up to at most the power of the vector.
func (c portsCase) wantKeeps(k int) bool {
	powers, ok := c.wantPowers(k)
	if !ok {
		return false
	}
	sum, sumOk := wantAdd(powers[0], powers[1])
	power, powerOk := wantJonesPower(c.of.v)
	return sumOk && powerOk && ordered(sum, power) <= 0
}

// wantTable returns the four numbers at the first port for a phase from 0 to 3.
func (c portsCase) wantTable(k int) (impl.Stokes, bool) {
	if !c.at[k][0].ok {
		return impl.Stokes{}, false
	}
	return wantStokesOf(c.at[k][0].v)
}
