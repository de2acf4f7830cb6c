package tests

import (
	"slices"
	"testing"

	"loop.example/polarisedlight/impl"
)

// fibreOf is a fibre and a vector that goes through it.
type fibreOf struct {
	list []impl.Section
	v    impl.Jones
}

// eachFibre calls check with each fibre and some vectors, and the matrix of the fibre, if it is told; every vector meets many fibres.
func eachFibre(check func(of fibreOf, m impl.Mat, ok bool)) {
	vectors := append(validVectors(), jones(frac(3, 0, 5), frac(4, 0, 5)), jones(frac(-4, 0, 5), frac(3, 0, 5)), jones(one, one), jones(frac(0, 1, 1), one), jones(frac(0, 2, 1), frac(0, 2, 1)))
	for i, list := range fibres() {
		m, ok := wantFibreMat(list)
		for k, v := range vectors {
			// All vectors for all fibres would take long.
			if (i+k)%5 == 0 {
				check(fibreOf{list, v}, m, ok)
			}
		}
	}
}

// eachNoFibre calls check with lists that are no fibres, and with fibres and what is no vector.
func eachNoFibre(check func(list []impl.Section, v impl.Jones)) {
	for _, list := range noFibres() {
		check(list, alongX)
		check(list, dark)
	}
	for _, list := range [][]impl.Section{nil, {}, sections([4]int{1, 0, 1, 0}), sections([4]int{1, 0, 1, 1}), sections([4]int{2, 1, 2, 50})} {
		for _, v := range noneVectors() {
			check(list, v)
		}
	}
}

// Promise 80.
func TestFibreValidWithoutTheLastSection(t *testing.T) {
	for _, list := range slices.Concat(fibres(), neighbours()) {
		if !impl.FibreValid(list) {
			t.Errorf("FibreValid of %v does not hold", list)
		}
		if len(list) > 0 && !impl.FibreValid(list[:len(list)-1]) {
			t.Errorf("FibreValid of %v without the last section does not hold", list)
		}
		if back, ok := impl.FibreBack(list); !ok || !impl.FibreValid(back) {
			t.Errorf("FibreValid of %v, FibreBack of %v, %v, does not hold", back, list, ok)
		}
	}
}

// Promise 80: lists of sections of which one, at each place, is none, and lists with too many.
func TestFibreValidOfNone(t *testing.T) {
	for _, list := range noFibres() {
		if impl.FibreValid(list) {
			t.Errorf("FibreValid of %v holds", list)
		}
	}
}

// Promise 80: sections with numbers in and around their ranges; of those done 0 times, too, all other numbers are asked.
func TestFibreValidRanges(t *testing.T) {
	for _, d := range directions() {
		for phase := -1; phase <= 4; phase++ {
			for _, times := range []int{-1, 0, 1, 49, 50, 51} {
				list := sections([4]int{d[0], d[1], phase, times})
				if want := wantSection(list[0]); impl.FibreValid(list) != want {
					t.Errorf("FibreValid of %v is not %v", list, want)
				}
			}
		}
	}
}

// Promise 80: fibres and lists that are told.
func TestFibreValidNumbers(t *testing.T) {
	cases := []struct {
		list []impl.Section
		want bool
	}{
		{nil, true},
		{[]impl.Section{}, true},
		{sections([4]int{1, 0, 1, 0}), true},
		{sections([4]int{1, 0, 1, 50}), true},
		{sections([4]int{1, 0, 1, -1}), false},
		{sections([4]int{1, 0, 1, 51}), false},
		{sections([4]int{1, 0, 0, 1}), true},
		{sections([4]int{1, 0, 3, 1}), true},
		{sections([4]int{1, 0, -1, 1}), false},
		{sections([4]int{1, 0, 4, 1}), false},
		{sections([4]int{1, 0, 4, 0}), false},
		{sections([4]int{-100, 100, 2, 1}), true},
		{sections([4]int{0, 0, 1, 1}), false},
		{sections([4]int{0, 0, 1, 0}), false},
		{sections([4]int{101, 0, 1, 0}), false},
		{sections([4]int{1, -101, 0, 1}), false},
		{[]impl.Section{{}}, false},
		{manySections([4]int{100, 99, 1, 50}, 7), true},
		{manySections([4]int{100, 99, 1, 50}, 8), true},
		{manySections([4]int{100, 99, 1, 50}, 9), false},
		{manySections([4]int{1, 0, 0, 0}, 9), false},
		{joinedSections(manySections([4]int{1, 0, 1, 1}, 7), sections([4]int{1, 0, 1, 51})), false},
		{joinedSections(sections([4]int{1, 0, 4, 1}), manySections([4]int{1, 0, 1, 1}, 7)), false},
	}
	for _, c := range cases {
		if impl.FibreValid(c.list) != c.want {
			t.Errorf("FibreValid of %v is not %v", c.list, c.want)
		}
	}
}

// Promise 81.
func TestFibreMatIsLosslessAndUndone(t *testing.T) {
	lossless, undone := 0, 0
	for _, list := range fibres() {
		m, ok := impl.FibreMat(list)
		want, wantOk := wantFibreMat(list)
		asTold(t, "FibreMat", list, m, ok, want, wantOk)
		if !ok {
			continue
		}
		exact, exactOk := exactFibreMat(list)
		asTold(t, "FibreMat", list, m, ok, exact, exactOk)
		if _, told := impl.MatTimes(m, wantAdjoint(m)); told {
			lossless++
			if !impl.MatLossless(m) {
				t.Errorf("FibreMat of %v is %v, not lossless", list, m)
			}
		}
		back, backOk := impl.FibreBack(list)
		n, nOk := impl.FibreMat(back)
		if product, productOk := impl.MatTimes(n, m); backOk && nOk && productOk {
			undone++
			asTold(t, "FibreMat and that of FibreBack", list, product, productOk, unitMat, true)
		}
	}
	if lossless < 150 || undone < 150 {
		t.Errorf("just %d matrices were told with their adjoints, and %d with those of FibreBack", lossless, undone)
	}
	for _, list := range noFibres() {
		m, ok := impl.FibreMat(list)
		asTold(t, "FibreMat", list, m, ok, impl.Mat{}, false)
	}
}

// Promise 81: matrices told in numbers; the first section is the last one in the product.
func TestFibreMatNumbers(t *testing.T) {
	turnedBy := func(quarter int) impl.Mat { return mat(one, zero, zero, fracOfPhase(quarter)) }
	cases := []struct {
		list []impl.Section
		want impl.Mat
	}{
		{nil, unitMat},
		{[]impl.Section{}, unitMat},
		{sections([4]int{2, 1, 1, 0}), unitMat},
		{sections([4]int{100, 99, 3, 0}), unitMat},
		{sections([4]int{1, 0, 1, 1}), turnedBy(1)},
		{sections([4]int{1, 0, 1, 2}), turnedBy(2)},
		{sections([4]int{1, 0, 1, 3}), turnedBy(3)},
		{sections([4]int{1, 0, 1, 4}), unitMat},
		{sections([4]int{1, 0, 1, 49}), turnedBy(1)},
		{sections([4]int{1, 0, 1, 50}), turnedBy(2)},
		{sections([4]int{1, 0, 2, 1}), turnedBy(2)},
		{sections([4]int{1, 0, 2, 50}), unitMat},
		{sections([4]int{1, 0, 3, 1}), turnedBy(3)},
		{sections([4]int{1, 0, 3, 2}), turnedBy(2)},
		{sections([4]int{1, 0, 0, 50}), unitMat},
		{sections([4]int{1, 1, 1, 1}), mat(frac(0, 1, 1), zero, zero, one)},
		{sections([4]int{1, 0, 1, 1}, [4]int{1, 1, 1, 1}), mat(frac(0, 1, 1), zero, zero, frac(0, 1, 1))},
		{sections([4]int{2, 1, 2, 1}), mat(frac(-7, 0, 25), frac(24, 0, 25), frac(24, 0, 25), frac(7, 0, 25))},
		{sections([4]int{1, 0, 2, 1}, [4]int{2, 1, 2, 1}), mat(frac(-7, 0, 25), frac(-24, 0, 25), frac(24, 0, 25), frac(-7, 0, 25))},
		{sections([4]int{2, 1, 2, 1}, [4]int{1, 0, 2, 1}), mat(frac(-7, 0, 25), frac(24, 0, 25), frac(-24, 0, 25), frac(-7, 0, 25))},
		{sections([4]int{2, 1, 2, 1}, [4]int{1, 0, 1, 1}), mat(frac(-7, 0, 25), frac(24, 0, 25), frac(0, 24, 25), frac(0, 7, 25))},
		{sections([4]int{2, 1, 1, 3}, [4]int{2, 1, 1, 1}), unitMat},
		{sections([4]int{2, 1, 2, 1}, [4]int{100, 99, 1, 0}, [4]int{3, 1, 0, 50}, [4]int{2, 1, 2, 1}), unitMat},
		{toldByPlates, mat(frac(161, 0, 289), frac(-240, 0, 289), frac(240, 0, 289), frac(161, 0, 289))},
		{manySections([4]int{1, 0, 1, 50}, 8), unitMat},
		{manySections([4]int{2, 1, 1, 50}, 8), unitMat},
		{manySections([4]int{1, 0, 1, 47}, 7), turnedBy(1)},
	}
	for _, c := range cases {
		m, ok := impl.FibreMat(c.list)
		asTold(t, "FibreMat", c.list, m, ok, c.want, true)
	}
}

// fracOfPhase returns the power of i of a phase.
func fracOfPhase(k int) impl.Frac {
	return fracs([][3]int{{1, 0, 1}, {0, 1, 1}, {-1, 0, 1}, {0, -1, 1}})[k]
}

// Promise 81: a matrix on the way that is none, plate by plate, though that of the whole fibre would be told, that of each section too, or that of no light is asked.
func TestFibreMatFails(t *testing.T) {
	for _, list := range [][]impl.Section{
		fineTwice, fineFour, fineAndBack, fineAhead, sections([4]int{15, 8, 1, 4}), joinedSections(fineTwice, sections([4]int{1, 0, 1, 0})), joinedSections(sections([4]int{1, 0, 1, 4}), fineTwice),
		joinedSections(sections([4]int{9, 4, 1, 1}), sections([4]int{10, 3, 2, 2})), joinedSections(fineAhead, sections([4]int{2, 1, 2, 50})), manySections([4]int{100, 99, 2, 1}, 8), manySections([4]int{100, 99, 1, 50}, 8),
	} {
		if _, ok := exactFibreMat(list); !ok {
			t.Errorf("the matrix of %v would not be told", list)
		}
		m, ok := impl.FibreMat(list)
		asTold(t, "FibreMat", list, m, ok, impl.Mat{}, false)
		v, ok := impl.FibreRun(list, dark)
		asTold(t, "FibreRun", fibreOf{list, dark}, v, ok, impl.Jones{}, false)
		n, ok := impl.FibreOrder(list)
		asTold(t, "FibreOrder", list, n, ok, 0, false)
		if impl.FibreStays(list, alongX) {
			t.Errorf("FibreStays of %v holds", list)
		}
	}
	for _, list := range [][]impl.Section{sections([4]int{15, 8, 1, 2}), sections([4]int{2, 1, 1, 1}, [4]int{3, 1, 1, 1}, [4]int{5, 2, 1, 1}, [4]int{7, 1, 1, 1}, [4]int{9, 4, 1, 1})} {
		m, ok := impl.FibreMat(list)
		asTold(t, "FibreMat", list, m, ok, impl.Mat{}, false)
	}
}

// Promise 82.
func TestFibreRunComesBack(t *testing.T) {
	cameBack, kept := 0, 0
	eachFibre(func(of fibreOf, m impl.Mat, mOk bool) {
		list, v := of.list, of.v
		out, ok := impl.FibreRun(list, v)
		want, wantOk := wantFibreRun(m, mOk, v)
		asTold(t, "FibreRun", of, out, ok, want, wantOk)
		if !ok {
			return
		}
		back, _ := impl.FibreBack(list)
		if again, againOk := impl.FibreRun(back, out); againOk {
			cameBack++
			asTold(t, "back, FibreRun", of, again, againOk, v, true)
		}
		before, beforeOk := impl.JonesPower(v)
		if after, afterOk := impl.JonesPower(out); beforeOk && afterOk {
			kept++
			asTold(t, "JonesPower behind FibreRun", of, after, afterOk, before, true)
		}
	})
	if cameBack < 3000 || kept < 1500 {
		t.Errorf("just %d vectors came back, and %d powers were told", cameBack, kept)
	}
	eachNoFibre(func(list []impl.Section, v impl.Jones) {
		out, ok := impl.FibreRun(list, v)
		asTold(t, "FibreRun", fibreOf{list, v}, out, ok, impl.Jones{}, false)
	})
}

// Promise 82: vectors told in numbers.
func TestFibreRunNumbers(t *testing.T) {
	const m = partMax
	cases := []struct {
		fibreOf
		want impl.Jones
	}{
		{fibreOf{nil, oneHand}, oneHand},
		{fibreOf{[]impl.Section{}, dark}, dark},
		{fibreOf{sections([4]int{1, 0, 1, 1}), jones(one, one)}, oneHand},
		{fibreOf{sections([4]int{1, 0, 1, 2}), oneHand}, jones(one, frac(0, -1, 1))},
		{fibreOf{sections([4]int{1, 0, 1, 0}), oneHand}, oneHand},
		{fibreOf{sections([4]int{1, 0, 3, 50}), oneHand}, jones(one, frac(0, -1, 1))},
		{fibreOf{sections([4]int{2, 1, 2, 1}), alongX}, jones(frac(-7, 0, 25), frac(24, 0, 25))},
		{fibreOf{sections([4]int{1, 0, 1, 1}, [4]int{2, 1, 2, 1}), alongY}, jones(frac(0, 24, 25), frac(0, 7, 25))},
		{fibreOf{sections([4]int{2, 1, 2, 1}, [4]int{1, 0, 1, 1}), alongY}, jones(frac(24, 0, 25), frac(0, 7, 25))},
		{fibreOf{sections([4]int{2, 1, 2, 2}), jones(frac(m-1, 0, 1), zero)}, jones(frac(m-1, 0, 1), zero)},
		{fibreOf{sections([4]int{2, 1, 2, 1}), jones(frac(25, 0, 1), frac(0, 50, 1))}, jones(frac(-7, 48, 1), frac(24, 14, 1))},
	}
	for _, c := range cases {
		out, ok := impl.FibreRun(c.list, c.v)
		asTold(t, "FibreRun", c.fibreOf, out, ok, c.want, true)
	}
}

// Promise 82: vectors that a matrix makes with a fraction on the way that is none.
func TestFibreRunFails(t *testing.T) {
	const m = partMax
	for _, c := range []fibreOf{
		{sections([4]int{2, 1, 2, 1}), jones(frac(m-1, 0, 1), zero)},
		{sections([4]int{2, 1, 2, 1}), jones(frac(1, 0, m), zero)},
		{sections([4]int{2, 1, 2, 1}), jones(zero, frac(0, m-1, 1))},
		{sections([4]int{2, 1, 1, 1}), jones(frac(m, 0, 1), frac(-m, 0, 1))},
		{fineTwice, dark},
		{fineFour, alongX},
	} {
		out, ok := impl.FibreRun(c.list, c.v)
		asTold(t, "FibreRun", c, out, ok, impl.Jones{}, false)
	}
}

// Promise 83.
func TestFibreOrderMakesAlike(t *testing.T) {
	found := map[int]int{}
	for _, list := range fibres() {
		n, ok := impl.FibreOrder(list)
		m, wantOk := wantFibreMat(list)
		if !wantOk {
			asTold(t, "FibreOrder", list, n, ok, 0, false)
			continue
		}
		asTold(t, "FibreOrder", list, n, ok, wantFibreOrder(m), true)
		found[n]++
		v, told := oneHand, n > 0
		for range n {
			if told {
				v, told = impl.FibreRun(list, v)
			}
		}
		if told && !impl.JonesAlike(v, oneHand) {
			t.Errorf("%v done %d times makes %v of %v", list, n, v, oneHand)
		}
	}
	for _, n := range []int{0, 1, 2, 4} {
		if found[n] == 0 {
			t.Errorf("no fibre had the order %d", n)
		}
	}
	for _, list := range noFibres() {
		n, ok := impl.FibreOrder(list)
		asTold(t, "FibreOrder", list, n, ok, 0, false)
	}
}

// Promise 83: orders told in numbers. A fibre without one has a product that is none sooner or later, also if the whole product would be told, as those of fine plates.
func TestFibreOrderNumbers(t *testing.T) {
	cases := []struct {
		list []impl.Section
		want int
	}{
		{nil, 1},
		{[]impl.Section{}, 1},
		{sections([4]int{2, 1, 1, 0}), 1},
		{sections([4]int{2, 1, 0, 50}), 1},
		{sections([4]int{2, 1, 1, 4}), 1},
		{sections([4]int{2, 1, 1, 48}), 1},
		{sections([4]int{2, 1, 1, 1}), 4},
		{sections([4]int{2, 1, 1, 2}), 2},
		{sections([4]int{2, 1, 1, 3}), 4},
		{sections([4]int{2, 1, 2, 1}), 2},
		{sections([4]int{2, 1, 3, 1}), 4},
		{sections([4]int{2, 1, 3, 50}), 2},
		{sections([4]int{1, 0, 1, 1}, [4]int{1, 1, 1, 1}), 1},
		{sections([4]int{1, 0, 1, 1}, [4]int{0, 1, 3, 1}), 1},
		{sections([4]int{1, 0, 1, 1}, [4]int{0, 1, 2, 1}), 4},
		{sections([4]int{1, 0, 1, 1}, [4]int{1, 1, 3, 1}), 2},
		{sections([4]int{1, 0, 2, 1}, [4]int{2, 1, 2, 1}), 0},
		{sections([4]int{1, 0, 2, 1}, [4]int{2, 1, 2, 1}, [4]int{1, 1, 2, 1}), 2},
		{sections([4]int{1, 0, 2, 1}, [4]int{2, 1, 2, 1}, [4]int{1, 0, 2, 1}), 2},
		{sections([4]int{1, 0, 1, 1}, [4]int{2, 1, 1, 1}), 0},
		{sections([4]int{100, 99, 1, 1}), 0},
		{sections([4]int{100, 99, 2, 1}), 0},
		{sections([4]int{15, 8, 1, 1}), 0},
		{sections([4]int{14, 3, 1, 1}), 4},
		{toldByPlates, 0},
	}
	for _, c := range cases {
		n, ok := impl.FibreOrder(c.list)
		asTold(t, "FibreOrder", c.list, n, ok, c.want, true)
	}
}
