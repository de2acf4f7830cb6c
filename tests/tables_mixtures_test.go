package tests

import (
	"math"
	"testing"

	"loop.example/polarisedlight/impl"
)

// Promise 57.
func TestTableMixOfItselfAndTheOtherWayRound(t *testing.T) {
	shares := [][2]int{{0, 1}, {1, 2}, {2, 6}, {99, 100}, {100, 100}}
	eachTablePair(func(a, b impl.Table) {
		for _, s := range shares {
			k, n := s[0], s[1]
			of := []any{a, b, k, n}
			mixed, ok := impl.TableMix(a, b, k, n)
			want, wantOk := wantTableMix(a, b, k, n)
			asTold(t, "TableMix", of, mixed, ok, want, wantOk)
			other, otherOk := impl.TableMix(b, a, n-k, n)
			asTold(t, "the other way round, TableMix", of, other, otherOk, mixed, ok)
			if k == n {
				asTold(t, "with all parts, TableMix", of, mixed, ok, a, true)
			}
			if a == b && ok && mixed != a {
				t.Errorf("TableMix of %v is %v", of, mixed)
			}
		}
	})
}

// Promise 57: all shares, and what is around them.
func TestTableMixShares(t *testing.T) {
	a, b := unevenTable, tableOver([16]int{3, 1, 4, 1, -5, 9, 2, 6, 5, -3, 5, 8, 9, 7, 9, -3}, 7)
	for n := -2; n <= 103; n++ {
		for k := -2; k <= n+2; k++ {
			mixed, ok := impl.TableMix(a, b, k, n)
			want, wantOk := wantTableMix(a, b, k, n)
			asTold(t, "TableMix", [2]int{k, n}, mixed, ok, want, wantOk)
		}
	}
}

// Promise 57: what is no share, and tables that are none.
func TestTableMixOfNone(t *testing.T) {
	for _, s := range noShares() {
		for _, a := range []impl.Table{noTable, unitTable, unevenTable} {
			mixed, ok := impl.TableMix(a, unitTable, s[0], s[1])
			asTold(t, "TableMix", []any{a, s}, mixed, ok, impl.Table{}, false)
		}
	}
	eachNoneTablePair(func(a, b impl.Table) {
		for _, s := range [][2]int{{0, 1}, {1, 1}, {1, 2}, {2, 1}} {
			mixed, ok := impl.TableMix(a, b, s[0], s[1])
			asTold(t, "TableMix", []any{a, b, s}, mixed, ok, impl.Table{}, false)
		}
	})
}

// Promise 57: mixtures told in numbers; of those that are none, a product is, though the sum would be told, or the sum of both.
func TestTableMixNumbers(t *testing.T) {
	const m = partMax
	all := func(n, den int) impl.Table { return withFrac(noTable, 6, frac(n, 0, den)) }
	cases := []struct {
		a, b impl.Table
		k, n int
		want impl.Table
	}{
		{unitTable, noTable, 1, 4, tableOver([16]int{1, 0, 0, 0, 0, 1, 0, 0, 0, 0, 1, 0, 0, 0, 0, 1}, 4)},
		{noTable, unitTable, 1, 4, tableOver([16]int{3, 0, 0, 0, 0, 3, 0, 0, 0, 0, 3, 0, 0, 0, 0, 3}, 4)},
		{unevenTable, unitTable, 2, 3, tableOver([16]int{3, 4, 6, -8, 10, -11, 14, 16, -18, 20, 23, 24, 26, 28, -30, 33}, 3)},
		{all(m, 1), all(-m, 1), 50, 100, noTable},
		{all(m, 1), all(m, 1), 30, 60, all(m, 1)},
		{all(m, 1), all(m, 1), 99, 100, all(m, 1)},
		{all(1, m), all(7, 1), 1, 1, all(1, m)},
		{all(1, m), all(-7, 1), 0, 1, all(-7, 1)},
		{all(1, m), all(1, m), 1, 2, impl.Table{}},
		{all(1, m), all(-1, m), 1, 2, impl.Table{}},
		{all(3, m), all(2, m-1), 1, 2, impl.Table{}},
		{all(m-1, m), all(m, 1), 1, 2, impl.Table{}},
		{all(2, 50000), all(2, 50001), 1, 2, impl.Table{}},
	}
	for _, c := range cases {
		mixed, ok := impl.TableMix(c.a, c.b, c.k, c.n)
		asTold(t, "TableMix", []any{c.a, c.b, c.k, c.n}, mixed, ok, c.want, c.want != impl.Table{})
	}
}

// Promise 57: a fraction that is none at each place.
func TestTableMixFailsAtEachPlace(t *testing.T) {
	for i := range 16 {
		a := withFrac(unitTable, i, frac(1, 0, partMax))
		mixed, ok := impl.TableMix(a, a, 1, 2)
		asTold(t, "TableMix", a, mixed, ok, impl.Table{}, false)
		mixed, ok = impl.TableMix(a, unevenTable, 1, 1)
		asTold(t, "with all parts, TableMix", a, mixed, ok, a, true)
	}
}

// Promise 58.
func TestTableFadeKeepsAndMakesLight(t *testing.T) {
	for _, c := range validFracs() {
		table, ok := impl.TableFade(c)
		if c.Im != 0 {
			asTold(t, "TableFade", c, table, ok, impl.Table{}, false)
			continue
		}
		asTold(t, "TableFade", c, table, ok, tableOnDiagonal(one, c, c, c), true)
		if c.Re < -c.Den || c.Re > c.Den {
			continue
		}
		if !impl.TableKeeps(table) {
			t.Errorf("TableFade of %v makes energy", c)
		}
		s, sOk := impl.TableApply(table, stokesOver(2, 0, 0, -2, 1))
		if sOk && squaresTold(s) && !impl.StokesLight(s) {
			t.Errorf("TableFade of %v makes %v of 1 and i", c, s)
		}
	}
	for _, c := range append(noneFracs(), notRealFracs()...) {
		table, ok := impl.TableFade(c)
		asTold(t, "TableFade", c, table, ok, impl.Table{}, false)
	}
}

// Promise 58: what fades, and fades away, told in numbers.
func TestTableFadeNumbers(t *testing.T) {
	const m = partMax
	cases := []struct {
		c    impl.Frac
		s    impl.Stokes
		want impl.Stokes
	}{
		{zero, stokesOver(7, 2, -3, 6, 1), stokesOver(7, 0, 0, 0, 1)},
		{one, stokesOver(7, 2, -3, 6, 1), stokesOver(7, 2, -3, 6, 1)},
		{frac(-1, 0, 1), stokesOver(7, 2, -3, 6, 1), stokesOver(7, -2, 3, -6, 1)},
		{frac(1, 0, 3), stokesOver(7, 2, -3, 6, 1), stokesOver(21, 2, -3, 6, 3)},
		{frac(m, 0, 1), stokesOver(m, 1, -1, 0, 1), stokesOver(m, m, -m, 0, 1)},
		{frac(-1, 0, m), stokesOver(-1, m, -m, 0, 1), stokesOver(-1, -1, 1, 0, 1)},
	}
	for _, c := range cases {
		table, ok := impl.TableFade(c.c)
		s, sOk := impl.TableApply(table, c.s)
		asTold(t, "TableApply of TableFade", c.c, s, ok && sOk, c.want, true)
	}
}

// Promises 59 and 60.
func TestTableKeepsAndEnergy(t *testing.T) {
	for _, a := range validTables() {
		least, greatest, wantOk := wantEnergies(a)
		keeps := impl.TableKeeps(a)
		if want := wantOk && numbersOf(least).x.Sign() >= 0 && numbersOf(greatest).x.Cmp(numbersOf(one).x) <= 0; keeps != want {
			t.Errorf("TableKeeps of %v is not %v", a, want)
		}
		energy, ok := impl.TableEnergy(a)
		asTold(t, "TableEnergy", a, energy, ok, greatest, wantOk)
		if order, orderOk := impl.FracCompare(energy, a.T[0]); ok && (!orderOk || order < 0) {
			t.Errorf("TableEnergy of %v is %v", a, energy)
		}
		if keeps {
			keptWithinOne(t, a, energy, ok)
		}
	}
	for _, a := range noneTables() {
		if impl.TableKeeps(a) {
			t.Errorf("TableKeeps of %v holds", a)
		}
		energy, ok := impl.TableEnergy(a)
		asTold(t, "TableEnergy", a, energy, ok, impl.Frac{}, false)
	}
}

// keptWithinOne fails the test if the energy of a table that keeps is none or not from 0 to 1, or not that of a mixture of the table and itself.
func keptWithinOne(t *testing.T, a impl.Table, energy impl.Frac, ok bool) {
	t.Helper()
	low, lowOk := impl.FracCompare(energy, zero)
	high, highOk := impl.FracCompare(energy, one)
	if !ok || !lowOk || !highOk || low < 0 || high > 0 {
		t.Errorf("%v keeps, and its TableEnergy is %v, %v", a, energy, ok)
	}
	mixed, mixedOk := impl.TableMix(a, a, 2, 5)
	if other, otherOk := impl.TableEnergy(mixed); mixedOk && (other != energy || !otherOk) {
		t.Errorf("TableEnergy of %v is %v, and of a mixture of it and itself %v", a, energy, other)
	}
}

// Promises 59 and 60: first rows told in numbers, whatever the other rows are; each of the six lights makes the greatest or the least number of one of them.
func TestTableEnergyNumbers(t *testing.T) {
	const m = partMax
	cases := []struct {
		row   [4]impl.Frac
		keeps bool
		want  impl.Frac
	}{
		{[4]impl.Frac{zero, zero, zero, zero}, true, zero},
		{[4]impl.Frac{one, zero, zero, zero}, true, one},
		{[4]impl.Frac{frac(1, 0, 2), frac(1, 0, 2), frac(-1, 0, 2), frac(1, 0, 2)}, true, one},
		{[4]impl.Frac{frac(1, 0, 3), frac(1, 0, 3), frac(-1, 0, 3), frac(-1, 0, 3)}, true, frac(2, 0, 3)},
		{[4]impl.Frac{frac(2, 0, 3), frac(1, 0, 3), zero, zero}, true, one},
		{[4]impl.Frac{frac(2, 0, 3), zero, frac(-1, 0, 3), zero}, true, one},
		{[4]impl.Frac{frac(2, 0, 3), frac(1, 0, 4), frac(-1, 0, 5), frac(1, 0, 6)}, true, frac(11, 0, 12)},
		{[4]impl.Frac{frac(2, 0, 3), frac(1, 0, 2), zero, zero}, false, frac(7, 0, 6)},
		{[4]impl.Frac{frac(2, 0, 3), zero, frac(-1, 0, 2), zero}, false, frac(7, 0, 6)},
		{[4]impl.Frac{frac(2, 0, 3), zero, zero, frac(1, 0, 2)}, false, frac(7, 0, 6)},
		{[4]impl.Frac{frac(1, 0, 3), frac(-1, 0, 2), zero, zero}, false, frac(5, 0, 6)},
		{[4]impl.Frac{frac(1, 0, 3), zero, frac(1, 0, 2), zero}, false, frac(5, 0, 6)},
		{[4]impl.Frac{frac(1, 0, 3), zero, zero, frac(-1, 0, 2)}, false, frac(5, 0, 6)},
		{[4]impl.Frac{zero, zero, zero, frac(1, 0, m)}, false, frac(1, 0, m)},
		{[4]impl.Frac{one, frac(-1, 0, m-1), zero, zero}, false, frac(m, 0, m-1)},
		{[4]impl.Frac{frac(m-1, 0, m), zero, frac(-1, 0, m), zero}, true, one},
		{[4]impl.Frac{frac(-1, 0, 1), zero, zero, zero}, false, frac(-1, 0, 1)},
		{[4]impl.Frac{frac(-1, 0, 2), frac(1, 0, 2), zero, zero}, false, zero},
		{[4]impl.Frac{frac(-9, 0, 1), frac(1, 0, 1), frac(2, 0, 1), frac(3, 0, 1)}, false, frac(-6, 0, 1)},
		{[4]impl.Frac{zero, frac(1, 0, 1), frac(-3, 0, 1), frac(2, 0, 1)}, false, frac(3, 0, 1)},
		{[4]impl.Frac{zero, frac(-3, 0, 1), frac(1, 0, 1), frac(-2, 0, 1)}, false, frac(3, 0, 1)},
		{[4]impl.Frac{frac(m, 0, 1), zero, zero, zero}, false, frac(m, 0, 1)},
		{[4]impl.Frac{zero, zero, frac(m, 0, 1), zero}, false, frac(m, 0, 1)},
	}
	for _, c := range cases {
		for _, a := range []impl.Table{noTable, unevenTable, withRow(2, [4]int{m, 0, 0, 0})} {
			for i, f := range c.row {
				a.T[i] = f
			}
			if impl.TableKeeps(a) != c.keeps {
				t.Errorf("TableKeeps of %v is not %v", a, c.keeps)
			}
			energy, ok := impl.TableEnergy(a)
			asTold(t, "TableEnergy", a, energy, ok, c.want, true)
		}
	}
}

// Promises 59 and 60: TableApply of one of the six lights fails, in each row and column, and for one sign alone.
func TestTableEnergyFailsOnTheWay(t *testing.T) {
	const m = partMax
	for i := range 4 {
		for k := 1; k < 4; k++ {
			for _, ends := range [][2]impl.Frac{
				{frac(m, 0, 1), one}, {frac(m, 0, 1), frac(-1, 0, 1)}, {one, frac(m, 0, 1)}, {frac(1, 0, m), frac(1, 0, m-1)}, {frac(m, 0, 1), frac(1, 0, 2)},
			} {
				a := withFrac(withFrac(noTable, 4*i, ends[0]), 4*i+k, ends[1])
				if impl.TableKeeps(a) {
					t.Errorf("TableKeeps of %v holds", a)
				}
				energy, ok := impl.TableEnergy(a)
				asTold(t, "TableEnergy", a, energy, ok, impl.Frac{}, false)
			}
		}
	}
	// No sum of the columns 1 to 3 is asked for.
	a := tableOver([16]int{0, m, m, m, 0, m, m, m, 0, m, m, m, 0, m, m, m}, 1)
	energy, ok := impl.TableEnergy(a)
	asTold(t, "TableEnergy", a, energy, ok, frac(m, 0, 1), true)
}

// Promise 61.
func TestTableUnitTimesLight(t *testing.T) {
	between := stokesOver(2, 0, 2, 0, 1)
	for n := -1003; n <= 1003; n++ {
		a := frac(n, 0, 1)
		want, wantOk := tableOnDiagonal(a, a, a, a), true
		if n < -1000 || n > 1000 {
			want, wantOk = impl.Table{}, false
		}
		table, ok := impl.TableUnit(n)
		asTold(t, "TableUnit", n, table, ok, want, wantOk)
		if impl.TableValid(table) != ok {
			t.Errorf("TableValid of TableUnit of %d is not %v", n, ok)
		}
		if ok {
			made, madeOk := impl.TableApply(table, between)
			times, timesOk := impl.StokesTimes(between, a)
			asTold(t, "TableApply of TableUnit", n, made, madeOk, times, timesOk)
		}
	}
}

// Promise 61: numbers that are no less than 1001 in size.
func TestTableUnitOfNone(t *testing.T) {
	for _, n := range []int{1001, -1001, 2000, -2000, partMax, -partMax, 1 << 32, math.MinInt, math.MaxInt, math.MinInt + 1} {
		table, ok := impl.TableUnit(n)
		asTold(t, "TableUnit", n, table, ok, impl.Table{}, false)
	}
}
