package tests

import (
	"slices"
	"testing"

	"loop.example/polarisedlight/impl"
)

// Promise 84.
func TestFibreBeatChangesNothing(t *testing.T) {
	for _, d := range directions() {
		for phase := -1; phase <= 4; phase++ {
			for _, times := range []int{-1, 0, 1, 2, 4, 50, 51} {
				s := impl.Section{P: d[0], Q: d[1], Phase: phase, Times: times}
				n, ok := impl.FibreBeat(s)
				if !wantSection(s) {
					asTold(t, "FibreBeat", s, n, ok, 0, false)
					continue
				}
				asTold(t, "FibreBeat", s, n, ok, wantBeat(s), true)
				for done := 1; done <= n && times == 50; done++ {
					s.Times = done
					if m, told := impl.FibreMat([]impl.Section{s}); told && (m == unitMat) != (done == n) {
						t.Errorf("FibreBeat of %v is %d, and its matrix is %v", s, n, m)
					}
				}
			}
		}
	}
	for _, s := range noSections() {
		n, ok := impl.FibreBeat(s)
		asTold(t, "FibreBeat", s, n, ok, 0, false)
	}
}

// Promise 84: beats told in numbers, also of a section done 0 times, and of one whose matrix is none if it is done twice.
func TestFibreBeatNumbers(t *testing.T) {
	for _, c := range []struct{ phase, want int }{{0, 1}, {1, 4}, {2, 2}, {3, 4}} {
		for _, s := range sections([4]int{1, 0, c.phase, 0}, [4]int{1, 0, c.phase, 1}, [4]int{2, 1, c.phase, 2}, [4]int{2, 1, c.phase, 4}, [4]int{-100, 99, c.phase, 50}) {
			n, ok := impl.FibreBeat(s)
			asTold(t, "FibreBeat", s, n, ok, c.want, true)
		}
	}
}

// Promise 85.
func TestFibreBackLeadsBack(t *testing.T) {
	for _, list := range slices.Concat(fibres(), neighbours()) {
		back, ok := impl.FibreBack(list)
		if want := wantFibreBack(list); !ok || !slices.Equal(back, want) {
			t.Errorf("FibreBack of %v is %v, %v, not %v", list, back, ok, want)
		}
		if again, againOk := impl.FibreBack(back); !againOk || !slices.Equal(again, list) {
			t.Errorf("FibreBack of %v leads back to %v, %v", list, again, againOk)
		}
	}
	for _, list := range noFibres() {
		if back, ok := impl.FibreBack(list); ok || len(back) != 0 {
			t.Errorf("FibreBack of %v is %v, %v", list, back, ok)
		}
	}
}

// Promise 85: fibres told in sections; nothing is joined, and what is done 0 times stays.
func TestFibreBackNumbers(t *testing.T) {
	cases := []struct{ list, want []impl.Section }{
		{nil, nil},
		{[]impl.Section{}, nil},
		{sections([4]int{2, 1, 0, 7}), sections([4]int{2, 1, 0, 7})},
		{sections([4]int{2, 1, 1, 7}), sections([4]int{2, 1, 3, 7})},
		{sections([4]int{2, 1, 2, 50}), sections([4]int{2, 1, 2, 50})},
		{sections([4]int{-2, 1, 3, 0}), sections([4]int{-2, 1, 1, 0})},
		{sections([4]int{1, 0, 1, 1}, [4]int{2, 1, 0, 2}), sections([4]int{2, 1, 0, 2}, [4]int{1, 0, 3, 1})},
		{sections([4]int{1, 0, 1, 1}, [4]int{1, 0, 1, 4}, [4]int{1, 0, 3, 2}), sections([4]int{1, 0, 1, 2}, [4]int{1, 0, 3, 4}, [4]int{1, 0, 3, 1})},
		{fineTwice, fineTwice},
	}
	for _, c := range cases {
		if back, ok := impl.FibreBack(c.list); !ok || !slices.Equal(back, c.want) {
			t.Errorf("FibreBack of %v is %v, %v, not %v", c.list, back, ok, c.want)
		}
	}
}

// shortOf reports whether a fibre has no more sections than another one, and is its own short one.
func shortOf(short, list []impl.Section) bool {
	again, ok := impl.FibreShort(short)
	return ok && len(short) <= len(list) && slices.Equal(again, short)
}

// Promise 86.
func TestFibreShortHasTheSameMatrix(t *testing.T) {
	shorter, compared := 0, 0
	for _, list := range slices.Concat(fibres(), neighbours()) {
		short, ok := impl.FibreShort(list)
		if want := wantShort(list); !ok || !slices.Equal(short, want) {
			t.Errorf("FibreShort of %v is %v, %v, not %v", list, short, ok, want)
		}
		if !shortOf(short, list) {
			t.Errorf("FibreShort of %v is not short: %v", list, short)
		}
		if len(short) < len(list) {
			shorter++
		}
		m, mOk := impl.FibreMat(list)
		if n, nOk := impl.FibreMat(short); mOk && nOk {
			compared++
			asTold(t, "FibreMat of FibreShort", list, n, nOk, m, true)
		}
	}
	if shorter < 3000 || compared < 3000 {
		t.Errorf("just %d fibres became shorter, and %d matrices were compared", shorter, compared)
	}
	for _, list := range noFibres() {
		if short, ok := impl.FibreShort(list); ok || len(short) != 0 {
			t.Errorf("FibreShort of %v is %v, %v", list, short, ok)
		}
	}
}

// Promise 86: fibres told in sections.
func TestFibreShortNumbers(t *testing.T) {
	a, b, c := [4]int{1, 0, 1, 1}, [4]int{2, 1, 1, 1}, [4]int{3, 1, 2, 1}
	a3, b3 := [4]int{1, 0, 1, 3}, [4]int{2, 1, 1, 3}
	cases := []struct{ list, want []impl.Section }{
		{nil, nil},
		{[]impl.Section{}, nil},
		{sections(a), sections(a)},
		{sections([4]int{1, 0, 1, 0}), nil},
		{sections([4]int{1, 0, 0, 50}), nil},
		{sections([4]int{1, 0, 1, 4}), nil},
		{sections([4]int{1, 0, 1, 50}), sections([4]int{1, 0, 1, 2})},
		{sections([4]int{1, 0, 2, 3}), sections([4]int{1, 0, 2, 1})},
		{sections([4]int{1, 0, 2, 50}), nil},
		{sections([4]int{1, 0, 3, 7}), sections([4]int{1, 0, 3, 3})},
		{sections(a, a), sections([4]int{1, 0, 1, 2})},
		{sections(a, a3), nil},
		{sections(a3, a3), sections([4]int{1, 0, 1, 2})},
		{sections(c, c), nil},
		{sections([4]int{1, 0, 1, 50}, [4]int{1, 0, 1, 49}), sections(a3)},
		{sections(a, [4]int{2, 0, 1, 3}), sections(a, [4]int{2, 0, 1, 3})},
		{sections(a, [4]int{-1, 0, 1, 3}), sections(a, [4]int{-1, 0, 1, 3})},
		{sections(a, [4]int{0, 1, 1, 3}), sections(a, [4]int{0, 1, 1, 3})},
		{sections([4]int{2, 1, 1, 1}, [4]int{2, -1, 1, 3}), sections([4]int{2, 1, 1, 1}, [4]int{2, -1, 1, 3})},
		{sections([4]int{2, 1, 1, 1}, [4]int{4, 2, 1, 3}), sections([4]int{2, 1, 1, 1}, [4]int{4, 2, 1, 3})},
		{sections(a, [4]int{1, 0, 3, 1}), sections(a, [4]int{1, 0, 3, 1})},
		{sections(a, [4]int{1, 0, 2, 1}, a), sections(a, [4]int{1, 0, 2, 1}, a)},
		{sections(a, b, a3), sections(a, b, a3)},
		{sections(a, [4]int{2, 1, 1, 0}, a3), nil},
		{sections(a, [4]int{2, 1, 0, 9}, a), sections([4]int{1, 0, 1, 2})},
		{sections(a, [4]int{2, 1, 1, 8}, a3, b), sections(b)},
		{sections(a, b, b3, a3), nil},
		{sections(a, b, c, c, b3, a3), nil},
		{sections(a, b, c, c, b, a), sections(a, [4]int{2, 1, 1, 2}, a)},
		{sections(a, b, c, c, b3, a), sections([4]int{1, 0, 1, 2})},
		{sections(b, a, a3, b, a, a3, b), sections(b3)},
		{sections(a, [4]int{1, 0, 1, 0}, a), sections([4]int{1, 0, 1, 2})},
		{sections(a, a, a, a), nil},
		{sections(a, a, a, a, a), sections(a)},
		{manySections([4]int{2, 1, 2, 1}, 7), sections([4]int{2, 1, 2, 1})},
		{manySections([4]int{2, 1, 3, 50}, 8), nil},
		{manySections([4]int{2, 1, 0, 50}, 8), nil},
		{slices.Repeat(sections(a, b), 4), slices.Repeat(sections(a, b), 4)},
		{fineFour, nil},
		{fineAhead, sections([4]int{100, 99, 1, 1})},
	}
	for _, c := range cases {
		if short, ok := impl.FibreShort(c.list); !ok || !slices.Equal(short, c.want) {
			t.Errorf("FibreShort of %v is %v, %v, not %v", c.list, short, ok, c.want)
		}
	}
}

// Promises 85 and 86: a fibre that is a piece of another one, a list that the caller changes later, and results that are changed or grown, leave all others as they are.
func TestFibreResultsAreNewMemory(t *testing.T) {
	all := sections([4]int{1, 0, 1, 5}, [4]int{1, 0, 1, 1}, [4]int{2, 1, 2, 9}, [4]int{2, 1, 0, 3}, [4]int{2, 1, 2, 2}, [4]int{1, 0, 3, 0}, [4]int{3, 1, 1, 6}, [4]int{3, 1, 3, 50})
	whole := slices.Clone(all)
	for from := range all {
		for to := from; to <= len(all); to++ {
			for _, make := range []func([]impl.Section) ([]impl.Section, bool){impl.FibreBack, impl.FibreShort} {
				list := all[from:to]
				made, _ := make(list)
				again, _ := make(list)
				other, _ := make(made)
				want := slices.Clone(made)
				_ = append(made, impl.Section{Times: 99})
				_ = append(again, impl.Section{Times: 99})
				if !slices.Equal(all, whole) {
					t.Fatalf("the sections %v have become %v", whole, all)
				}
				for i := range again {
					again[i] = impl.Section{}
				}
				for i := range other {
					other[i] = impl.Section{}
				}
				for i := range list {
					list[i] = impl.Section{Times: -1}
				}
				if !slices.Equal(made, want) {
					t.Fatalf("the sections %d to %d of %v make %v, which becomes %v", from, to, whole, want, made)
				}
				copy(all, whole)
			}
		}
	}
}

// Promises 80 to 87: a fibre that is a piece of another list is as if it stood alone, and no function changes the list; with another section in the same memory, the result is another one.
func TestFibresOfSharedMemory(t *testing.T) {
	all := sections([4]int{1, 0, 1, 1}, [4]int{2, 1, 2, 1}, [4]int{1, 0, 1, 1}, [4]int{2, 1, 2, 1}, [4]int{0, 0, 1, 1}, [4]int{1, 0, 4, 1})
	whole := slices.Clone(all)
	if !impl.FibreValid(all[:2]) || !impl.FibreValid(all[:4]) || impl.FibreValid(all[:5]) || impl.FibreValid(all[5:]) {
		t.Errorf("FibreValid of pieces of %v is wrong", all)
	}
	want, _ := wantFibreMat(whole[:2])
	for _, list := range [][]impl.Section{all[:2], all[2:4]} {
		m, ok := impl.FibreMat(list)
		asTold(t, "FibreMat", list, m, ok, want, true)
		v, ok := impl.FibreRun(list, alongY)
		asTold(t, "FibreRun", list, v, ok, jones(frac(0, 24, 25), frac(0, 7, 25)), true)
		n, ok := impl.FibreOrder(list)
		asTold(t, "FibreOrder", list, n, ok, 0, true)
	}
	if !slices.Equal(all, whole) {
		t.Fatalf("the sections %v have become %v", whole, all)
	}
	all[0].Phase = 2
	m, ok := impl.FibreMat(all[:2])
	want, _ = wantFibreMat(all[:2])
	asTold(t, "FibreMat", all[:2], m, ok, want, true)
	if impl.FibreStays(all[:2], alongX) || !impl.FibreStays(all[:1], alongX) {
		t.Errorf("FibreStays of pieces of %v is wrong", all)
	}
}

// Promise 87.
func TestFibreStaysTimesI(t *testing.T) {
	stay, turned := 0, 0
	eachFibre(func(of fibreOf, m impl.Mat, mOk bool) {
		list, v := of.list, of.v
		holds := impl.FibreStays(list, v)
		if want := wantStays(m, mOk, v); holds != want {
			t.Errorf("FibreStays of %v is not %v", of, want)
		}
		if !holds {
			return
		}
		stay++
		by, byOk := impl.JonesTimes(v, frac(0, 1, 1))
		out, outOk := impl.FibreRun(list, by)
		_, leftOk := impl.FracTimes(out.X, by.Y)
		_, rightOk := impl.FracTimes(out.Y, by.X)
		if byOk && outOk && leftOk && rightOk {
			turned++
			if !impl.FibreStays(list, by) {
				t.Errorf("FibreStays of %v does not hold for the vector times i", of)
			}
		}
	})
	if stay < 1000 || turned < 1000 {
		t.Errorf("just %d vectors stayed, and %d were told times i", stay, turned)
	}
	eachNoFibre(func(list []impl.Section, v impl.Jones) {
		if impl.FibreStays(list, v) {
			t.Errorf("FibreStays of %v holds", fibreOf{list, v})
		}
	})
}

// Promise 87: fibres and vectors that are told; with great fractions the products on the way are none, though the vector is the same.
func TestFibreStaysNumbers(t *testing.T) {
	const m = partMax
	along := jones(frac(3, 0, 5), frac(4, 0, 5))
	turn := sections([4]int{1, 0, 2, 1}, [4]int{2, 1, 2, 1})
	cases := []struct {
		fibreOf
		want bool
	}{
		{fibreOf{nil, alongX}, true},
		{fibreOf{[]impl.Section{}, oneHand}, true},
		{fibreOf{nil, dark}, false},
		{fibreOf{sections([4]int{1, 0, 1, 1}), dark}, false},
		{fibreOf{sections([4]int{1, 0, 1, 1}), alongX}, true},
		{fibreOf{sections([4]int{1, 0, 1, 1}), alongY}, true},
		{fibreOf{sections([4]int{1, 0, 1, 1}), jones(zero, frac(m, -m, 1))}, true},
		{fibreOf{sections([4]int{1, 0, 1, 1}), jones(one, one)}, false},
		{fibreOf{sections([4]int{1, 0, 1, 2}), oneHand}, false},
		{fibreOf{sections([4]int{1, 0, 1, 4}), oneHand}, true},
		{fibreOf{sections([4]int{1, 0, 1, 0}), oneHand}, true},
		{fibreOf{sections([4]int{2, 1, 1, 1}), along}, true},
		{fibreOf{sections([4]int{2, 1, 1, 1}), jones(frac(-4, 0, 5), frac(3, 0, 5))}, true},
		{fibreOf{sections([4]int{2, 1, 1, 1}), alongX}, false},
		{fibreOf{turn, oneHand}, true},
		{fibreOf{turn, jones(one, frac(0, -1, 1))}, true},
		{fibreOf{turn, along}, false},
		{fibreOf{nil, jones(frac(44721, 0, 1), frac(44721, 0, 1))}, true},
		{fibreOf{nil, jones(frac(44722, 0, 1), frac(44722, 0, 1))}, false},
		{fibreOf{nil, jones(one, frac(m, 0, 1))}, true},
		{fibreOf{nil, jones(frac(2, 0, 1), frac(m, 0, 1))}, false},
		{fibreOf{sections([4]int{2, 1, 1, 1}), jones(frac(m, 0, 1), zero)}, false},
		{fibreOf{fineFour, alongX}, false},
		{fibreOf{fineTwice, oneHand}, false},
	}
	for _, c := range cases {
		if impl.FibreStays(c.list, c.v) != c.want {
			t.Errorf("FibreStays of %v is not %v", c.fibreOf, c.want)
		}
	}
}
