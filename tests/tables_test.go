package tests

import (
	"math/big"
	"runtime"
	"testing"
	"time"

	"loop.example/polarisedlight/impl"
)

// Promise 52.
func TestTableValidTimesUnit(t *testing.T) {
	unit, unitOk := impl.TableUnit(1)
	asTold(t, "TableUnit", 1, unit, unitOk, unitTable, true)
	for _, a := range validTables() {
		if !impl.TableValid(a) {
			t.Errorf("TableValid of %v does not hold", a)
		}
		left, leftOk := impl.TableTimes(unit, a)
		asTold(t, "behind TableUnit, TableTimes", a, left, leftOk, a, true)
		right, rightOk := impl.TableTimes(a, unit)
		asTold(t, "ahead of TableUnit, TableTimes", a, right, rightOk, a, true)
	}
}

// Promise 52: one of the sixteen fractions is none or not real, at each place.
func TestTableValidOfNone(t *testing.T) {
	for _, a := range noneTables() {
		if impl.TableValid(a) {
			t.Errorf("TableValid of %v holds", a)
		}
	}
}

// Promise 53.
func TestTableOfMakesTheSameLight(t *testing.T) {
	vectors := []impl.Jones{jones(one, zero), jones(one, one), oneHand, jones(one, frac(-2, 1, 3)), alongY, dark, jones(frac(1, 2, 2), frac(3, -1, 5))}
	for _, a := range validMats() {
		table, ok := impl.TableOf(a)
		want, wantOk := wantTableOf(a)
		asTold(t, "TableOf", a, table, ok, want, wantOk)
		if !ok {
			continue
		}
		for _, v := range vectors {
			s, _ := impl.StokesOf(v)
			made, madeOk := impl.TableApply(table, s)
			w, wOk := impl.MatApply(a, v)
			of, ofOk := impl.StokesOf(w)
			if madeOk && wOk && ofOk && made != of {
				t.Errorf("TableOf of %v makes %v of the four numbers of %v, not %v", a, made, v, of)
			}
		}
	}
	for _, a := range noneMats() {
		table, ok := impl.TableOf(a)
		asTold(t, "TableOf", a, table, ok, impl.Table{}, false)
	}
}

// imaginaryMats returns all matrices of fractions of a short list, half of them with imaginary parts.
func imaginaryMats() []impl.Mat {
	parts := fracs([][3]int{{0, 0, 1}, {1, 0, 1}, {-3, 0, 2}, {0, 1, 1}, {1, -2, 3}, {-1, 4, 2}, {2, 1, 5}})
	var list []impl.Mat
	for _, a := range parts {
		for _, b := range parts {
			for _, c := range parts {
				for _, d := range parts {
					list = append(list, mat(a, b, c, d))
				}
			}
		}
	}
	return list
}

// Promise 53: the table is the only one, which is found without its formulas, and all parts of the matrix may be imaginary.
func TestTableOfIsTheOnlyOne(t *testing.T) {
	for _, a := range append(imaginaryMats(), validMats()...) {
		table, ok := impl.TableOf(a)
		if _, wantOk := wantTableOf(a); ok != wantOk {
			t.Errorf("TableOf of %v is told %v", a, ok)
		}
		if !ok {
			continue
		}
		for i, want := range onlyTable(a) {
			if got := table.T[i]; got.Im != 0 || numbersOf(got).x.Cmp(want) != 0 {
				t.Errorf("TableOf of %v has %v at the place %d, not %v", a, got, i, want)
			}
		}
	}
}

// Promise 53: tables told in numbers, of matrices with imaginary parts and with parts of the greatest size.
func TestTableOfNumbers(t *testing.T) {
	const great = 44721 * 44721
	halves := tableOver([16]int{1, 1, 0, 0, 1, 1, 0, 0, 0, 0, 0, 0, 0, 0, 0, 0}, 2)
	cases := []struct {
		a    impl.Mat
		want impl.Table
	}{
		{noMat, noTable},
		{unitMat, unitTable},
		{matOver([8]int{1, 0, 0, 0, 0, 0, 0, 0}, 1), halves},
		{matOver([8]int{0, -1, 0, 0, 0, 0, 0, 0}, 1), halves},
		{matOver([8]int{0, 0, 1, 0, 0, 0, 0, 0}, 1), tableOver([16]int{1, -1, 0, 0, 1, -1, 0, 0, 0, 0, 0, 0, 0, 0, 0, 0}, 2)},
		{matOver([8]int{0, 0, 0, 0, 1, 0, 0, 0}, 1), tableOver([16]int{1, 1, 0, 0, -1, -1, 0, 0, 0, 0, 0, 0, 0, 0, 0, 0}, 2)},
		{matOver([8]int{0, 0, 0, 0, 0, 0, 1, 0}, 1), tableOver([16]int{1, -1, 0, 0, -1, 1, 0, 0, 0, 0, 0, 0, 0, 0, 0, 0}, 2)},
		{matOver([8]int{3, 0, -4, 0, 4, 0, 3, 0}, 5), tableOver([16]int{25, 0, 0, 0, 0, -7, -24, 0, 0, 24, -7, 0, 0, 0, 0, 25}, 25)},
		{matOver([8]int{1, 0, 0, 0, 0, 0, 0, 1}, 1), tableOver([16]int{1, 0, 0, 0, 0, 1, 0, 0, 0, 0, 0, 1, 0, 0, -1, 0}, 1)},
		{matOver([8]int{1, 2, 3, -4, -5, 6, 7, 8}, 1), tableOver([16]int{102, -36, 8, -92, -72, 16, -18, 72, -4, 18, -16, -4, -68, 36, 8, 62}, 1)},
		{matOver([8]int{1, 2, 3, -4, -5, 6, 7, 8}, 3), tableOver([16]int{102, -36, 8, -92, -72, 16, -18, 72, -4, 18, -16, -4, -68, 36, 8, 62}, 9)},
		{matOver([8]int{44721, 0, 0, 0, 0, 0, 0, 0}, 1), tableOver([16]int{great, great, 0, 0, great, great, 0, 0, 0, 0, 0, 0, 0, 0, 0, 0}, 2)},
		{matOver([8]int{0, 0, 0, 2, 0, 0, 0, 0}, 44721), tableOver([16]int{2, -2, 0, 0, 2, -2, 0, 0, 0, 0, 0, 0, 0, 0, 0, 0}, great)},
		{matOver([8]int{1, 0, 0, 0, 0, 0, 0, 0}, 31622), tableOver([16]int{1, 1, 0, 0, 1, 1, 0, 0, 0, 0, 0, 0, 0, 0, 0, 0}, 2*31622*31622)},
		{matOver([8]int{31622, 0, 0, 31622, 0, 0, 0, 0}, 1), tableOver([16]int{31622 * 31622, 0, 0, 31622 * 31622, 31622 * 31622, 0, 0, 31622 * 31622, 0, 0, 0, 0, 0, 0, 0, 0}, 1)},
		{matOver([8]int{1, 1, 1, 1, 63400, 0, 0, 0}, 2), tableOver([16]int{1 + 31700*31700, 31700 * 31700, 1, 0, 1 - 31700*31700, -31700 * 31700, 1, 0, 31700, 31700, 31700, 31700, 31700, 31700, 31700, -31700}, 2)},
	}
	for _, c := range cases {
		table, ok := impl.TableOf(c.a)
		asTold(t, "TableOf", c.a, table, ok, c.want, true)
	}
}

// allTold reports whether all numbers of a table are exact fractions.
func allTold(table [16]*big.Rat) bool {
	for _, x := range table {
		if _, ok := (numbers{x, new(big.Rat)}).frac(); !ok {
			return false
		}
	}
	return true
}

// Promise 53: matrices of which all fractions of the table would be told, and one on the way is none: a power, a sum of powers, from the first one on, a product, or a sum of products ahead of its parts.
func TestTableOfFailsOnTheWay(t *testing.T) {
	// Of both fractions, the product with the first one mirrored or not has a bottom that is too great, and both of its parts have lesser ones.
	long, short := frac(300079997, -399939996, 500000005), frac(5, 0, 21)
	// So has the sum of both.
	first, second := frac(-20000, 99999999, 300000003), frac(99979999, 100019999, 700000007)
	great, half := frac(31700, 0, 1), frac(1, 1, 2)
	var list []impl.Mat
	for i := range 4 {
		power := noMat
		power.M[i] = frac(44722, 0, 1)
		list = append(list, power)
		for k := range i {
			sum, product := noMat, noMat
			sum.M[i], sum.M[k] = frac(31623, 0, 1), frac(0, 31623, 1)
			product.M[i], product.M[k] = long, short
			list = append(list, sum, product)
		}
	}
	list = append(list,
		matOver([8]int{25820, 0, 25820, 0, 25820, 0, 0, 0}, 1), matOver([8]int{25820, 0, 0, 0, 0, 25820, 25820, 0}, 1),
		matOver([8]int{22361, 0, 22361, 0, 22361, 0, 22361, 0}, 1),
		mat(great, half, half, zero), mat(great, zero, half, half), mat(zero, great, half, half),
		mat(first, one, second, one), mat(first, second, one, one),
	)
	for _, a := range list {
		if !allTold(onlyTable(a)) {
			t.Errorf("not all fractions of the table of %v would be told", a)
		}
		table, ok := impl.TableOf(a)
		asTold(t, "TableOf", a, table, ok, impl.Table{}, false)
	}
}

// Promise 53: matrices of which a fraction of the table itself is none.
func TestTableOfFails(t *testing.T) {
	const m = partMax
	for _, a := range []impl.Mat{
		matOver([8]int{m, 0, 0, 0, 0, 0, 0, 0}, 1), matOver([8]int{0, 0, 0, m, 0, 0, 0, 0}, 1), matOver([8]int{0, 0, 0, 0, 1, 0, 0, 0}, m), matOver([8]int{0, 0, 0, 0, 0, 0, 0, 1}, m),
		matOver([8]int{1, 0, 0, 0, 0, 0, 0, 0}, 44721), matOver([8]int{0, 0, 0, 0, 0, 0, 1, 0}, 31624), greatFlat, finelyTurned,
	} {
		table, ok := impl.TableOf(a)
		asTold(t, "TableOf", a, table, ok, impl.Table{}, false)
	}
}

// Promise 54.
func TestTableApplyTwice(t *testing.T) {
	for _, a := range validTables() {
		for _, s := range validStokes() {
			of := []any{a, s}
			made, ok := impl.TableApply(a, s)
			want, wantOk := wantTableApply(a, s)
			asTold(t, "TableApply", of, made, ok, want, wantOk)
			twice, twiceOk := impl.StokesAdd(s, s)
			both, bothOk := impl.TableApply(a, twice)
			sum, sumOk := impl.StokesAdd(made, made)
			if ok && twiceOk && bothOk && sumOk && both != sum {
				t.Errorf("TableApply of %v added to itself is %v, and added to itself %v", of, both, sum)
			}
		}
	}
}

// Promise 54: a table or four numbers that are none or not real.
func TestTableApplyOfNone(t *testing.T) {
	for _, a := range noneTables() {
		for _, s := range []impl.Stokes{noLight, stokesOver(3, 1, 2, 2, 1), {}} {
			made, ok := impl.TableApply(a, s)
			asTold(t, "TableApply", []any{a, s}, made, ok, impl.Stokes{}, false)
		}
	}
	for _, s := range noneStokes() {
		for _, a := range []impl.Table{noTable, unitTable, unevenTable} {
			made, ok := impl.TableApply(a, s)
			asTold(t, "TableApply", []any{a, s}, made, ok, impl.Stokes{}, false)
		}
	}
}

// Promise 54: four numbers told in numbers.
func TestTableApplyNumbers(t *testing.T) {
	const m = partMax
	cases := []struct {
		a    impl.Table
		s    impl.Stokes
		want impl.Stokes
	}{
		{noTable, stokesOver(m, -m, m, 1, 1), noLight},
		{unitTable, stokesOver(m, -m, m, 1, 1), stokesOver(m, -m, m, 1, 1)},
		{unevenTable, noLight, noLight},
		{unevenTable, stokesOver(1, 0, 0, 0, 1), stokesOver(1, 5, -9, 13, 1)},
		{unevenTable, stokesOver(0, 1, 0, 0, 1), stokesOver(2, -6, 10, 14, 1)},
		{unevenTable, stokesOver(0, 0, 1, 0, 1), stokesOver(3, 7, 11, -15, 1)},
		{unevenTable, stokesOver(0, 0, 0, 1, 1), stokesOver(-4, 8, 12, 16, 1)},
		{unevenTable, stokesOver(1, -2, 3, 5, 1), stokesOver(-14, 78, 64, 20, 1)},
		{unevenTable, stokesOver(1, -2, 3, 5, 10), stokesOver(-14, 78, 64, 20, 10)},
		{tableOnDiagonal(frac(m, 0, 1), frac(1, 0, m), frac(-m, 0, 1), frac(m, 0, 1)), stokes(frac(1, 0, m), frac(m, 0, 1), frac(1, 0, m), frac(-1, 0, m)), stokesOver(1, 1, -1, -1, 1)},
	}
	for _, c := range cases {
		made, ok := impl.TableApply(c.a, c.s)
		asTold(t, "TableApply", []any{c.a, c.s}, made, ok, c.want, true)
	}
}

// rowsOnTheWay are rows of which the sums from the first number on stay within the greatest part, or do not, though the sum of all four does.
func rowsOnTheWay() (inside, beyond [][4]int) {
	const m = partMax
	return [][4]int{{m, -1, 1, 0}, {m, -m, m, -m}, {0, -1, 1, m}, {-1, -1, m, 1}, {-1, 1, m, 0}, {-m, m, m, -1}, {1, -m, -1, m}},
		[][4]int{{m, 1, -1, 0}, {m, 0, 1, -1}, {1, m, -1, 0}, {0, m, 1, -1}, {-m, -m, m, m}, {m, m, -m, -m}, {0, -m, -1, 1}, {-1, 0, -m, 1}}
}

// Promise 54: sums from the first product on, in each row.
func TestTableApplySumsInOrder(t *testing.T) {
	inside, beyond := rowsOnTheWay()
	ones := stokesOver(1, 1, 1, 1, 1)
	for i := range 4 {
		for _, n := range inside {
			want := noLight
			want.S[i] = frac(n[0]+n[1]+n[2]+n[3], 0, 1)
			made, ok := impl.TableApply(withRow(i, n), ones)
			asTold(t, "TableApply", n, made, ok, want, true)
			made, ok = impl.TableApply(withRow(i, [4]int{1, 1, 1, 1}), stokesOver(n[0], n[1], n[2], n[3], 1))
			asTold(t, "of these numbers, TableApply", n, made, ok, want, true)
		}
		for _, n := range beyond {
			made, ok := impl.TableApply(withRow(i, n), ones)
			asTold(t, "TableApply", n, made, ok, impl.Stokes{}, false)
			made, ok = impl.TableApply(withRow(i, [4]int{1, 1, 1, 1}), stokesOver(n[0], n[1], n[2], n[3], 1))
			asTold(t, "of these numbers, TableApply", n, made, ok, impl.Stokes{}, false)
		}
	}
}

// Promise 54: products that are none, though both together are 0, at each two places of each row.
func TestTableApplyProductsOnTheWay(t *testing.T) {
	for i := range 4 {
		for k := range 4 {
			for l := range k {
				var n, s [4]int
				n[k], n[l], s[k], s[l] = 50000, 50000, 50000, -50000
				a, four := withRow(i, n), stokesOver(s[0], s[1], s[2], s[3], 1)
				made, ok := impl.TableApply(a, four)
				asTold(t, "TableApply", []any{a, four}, made, ok, impl.Stokes{}, false)
			}
		}
	}
}

// Promise 55.
func TestTableTimesMakesOneAfterTheOther(t *testing.T) {
	hand := stokesOver(2, 0, 0, -2, 1)
	eachTablePair(func(a, b impl.Table) {
		pair := [2]impl.Table{a, b}
		product, ok := impl.TableTimes(a, b)
		want, wantOk := wantTableTimes(a, b)
		asTold(t, "TableTimes", pair, product, ok, want, wantOk)
		if !ok {
			return
		}
		made, madeOk := impl.TableApply(product, hand)
		between, betweenOk := impl.TableApply(b, hand)
		last, lastOk := impl.TableApply(a, between)
		if madeOk && betweenOk && lastOk && made != last {
			t.Errorf("TableTimes of %v makes %v of 1 and i, and one after the other %v", pair, made, last)
		}
	})
	eachNoneTablePair(func(a, b impl.Table) {
		product, ok := impl.TableTimes(a, b)
		asTold(t, "TableTimes", [2]impl.Table{a, b}, product, ok, impl.Table{}, false)
	})
}

// Promise 55: products told in numbers, and the order of both.
func TestTableTimesNumbers(t *testing.T) {
	const m = partMax
	upper := tableOver([16]int{1, 1, 0, 0, 0, 1, 2, 0, 0, 0, 1, 3, 4, 0, 0, 1}, 1)
	cases := []struct{ a, b, want impl.Table }{
		{noTable, unevenTable, noTable},
		{unevenTable, noTable, noTable},
		{unevenTable, upper, tableOver([16]int{-15, 3, 7, 5, 37, -1, -5, 29, 39, 1, 31, 45, 77, 27, 13, -29}, 1)},
		{upper, unevenTable, tableOver([16]int{6, -4, 10, 4, -13, 14, 29, 32, 30, 52, -34, 60, 17, 22, -3, 0}, 1)},
		{tableOnDiagonal(frac(m, 0, 1), frac(1, 0, m), frac(-m, 0, 1), one), tableOnDiagonal(frac(1, 0, m), frac(m, 0, 1), frac(1, 0, m), frac(m, 0, 1)), tableOnDiagonal(one, one, frac(-1, 0, 1), frac(m, 0, 1))},
	}
	for _, c := range cases {
		product, ok := impl.TableTimes(c.a, c.b)
		asTold(t, "TableTimes", [2]impl.Table{c.a, c.b}, product, ok, c.want, true)
	}
}

// Promise 55: sums from the first product on, and products, in each row and column.
func TestTableTimesOnTheWay(t *testing.T) {
	inside, beyond := rowsOnTheWay()
	for i := range 4 {
		for k := range 4 {
			ones := withColumn(k, [4]int{1, 1, 1, 1})
			for _, n := range inside {
				product, ok := impl.TableTimes(withRow(i, n), ones)
				want := withFrac(noTable, 4*i+k, frac(n[0]+n[1]+n[2]+n[3], 0, 1))
				asTold(t, "TableTimes", []any{i, k, n}, product, ok, want, true)
			}
			for _, n := range beyond {
				product, ok := impl.TableTimes(withRow(i, n), ones)
				asTold(t, "TableTimes", []any{i, k, n}, product, ok, impl.Table{}, false)
			}
			for l := range 4 {
				n, s := [4]int{50000, 50000, 50000, 50000}, [4]int{0, 0, 0, 0}
				s[l], s[(l+1)%4] = 50000, -50000
				product, ok := impl.TableTimes(withRow(i, n), withColumn(k, s))
				asTold(t, "TableTimes", []any{i, k, n, s}, product, ok, impl.Table{}, false)
			}
		}
	}
}

// Promise 56.
func TestTableOfProductIsProductOfTables(t *testing.T) {
	compared := 0
	eachMatPair(func(a, b impl.Mat) {
		product, ok := impl.MatTimes(a, b)
		table, tableOk := impl.TableOf(product)
		first, firstOk := impl.TableOf(a)
		second, secondOk := impl.TableOf(b)
		times, timesOk := impl.TableTimes(first, second)
		if !ok || !tableOk || !firstOk || !secondOk || !timesOk {
			return
		}
		compared++
		if table != times {
			t.Errorf("TableOf of the product of %v and %v is %v, not %v", a, b, table, times)
		}
	})
	if compared < 1000 {
		t.Errorf("just %d products were compared", compared)
	}
}

// The tables are made in goroutines: none of them stays behind, whatever fails, and calls at the same time tell the same.
func TestTableGoroutinesEnd(t *testing.T) {
	before := runtime.NumGoroutine()
	results := make(chan bool)
	for range 8 {
		go func() {
			same := true
			for i := range 100 {
				product, ok := impl.TableTimes(unevenTable, unitTable)
				_, failed := impl.TableTimes(withRow(i%4, [4]int{50000, 50000, 0, 0}), withColumn(0, [4]int{50000, -50000, 0, 0}))
				_, none := impl.TableOf(greatFlat)
				same = same && ok && product == unevenTable && !failed && !none
			}
			results <- same
		}()
	}
	for range 8 {
		if !<-results {
			t.Errorf("calls at the same time tell something else")
		}
	}
	// A goroutine that has told its result may take a moment to end.
	for range 1000 {
		if runtime.NumGoroutine() <= before {
			return
		}
		time.Sleep(time.Millisecond)
	}
	t.Errorf("%d goroutines stay behind", runtime.NumGoroutine()-before)
}
