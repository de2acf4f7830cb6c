package tests

import (
	"math"
	"math/big"

	"loop.example/polarisedlight/impl"
)

var (
	noTable   = tableOver([16]int{}, 1)
	unitTable = tableOnDiagonal(one, one, one, one)
	// No row and no column of it is that of another place, and no sum of its rows is the same.
	unevenTable = tableOver([16]int{1, 2, 3, -4, 5, -6, 7, 8, -9, 10, 11, 12, 13, 14, -15, 16}, 1)
)

// tableFormulas are what the document tells of the table of a matrix, row by row: what is taken of a sum, and the sum of products of one fraction and another one mirrored.
var tableFormulas = [16][2]string{
	{"half", "+aa+bb+cc+dd"}, {"half", "+aa-bb+cc-dd"}, {"real", "+ab+cd"}, {"imaginary", "+ba+dc"},
	{"half", "+aa+bb-cc-dd"}, {"half", "+aa-bb-cc+dd"}, {"real", "+ab-cd"}, {"imaginary", "+ba-dc"},
	{"real", "+ac+bd"}, {"real", "+ac-bd"}, {"real", "+ad+bc"}, {"imaginary", "+bc-ad"},
	{"imaginary", "+ac+bd"}, {"imaginary", "+ac-bd"}, {"imaginary", "+ad+bc"}, {"real", "+ad-bc"},
}

// tableOver returns the table of sixteen whole numbers, row by row, over a bottom, each fraction in lowest terms.
func tableOver(n [16]int, den int) impl.Table {
	var t impl.Table
	for i := range t.T {
		t.T[i], _ = numbersOver(n[i], 0, den).frac()
	}
	return t
}

func tableOnDiagonal(a, b, c, d impl.Frac) impl.Table {
	t := noTable
	t.T[0], t.T[5], t.T[10], t.T[15] = a, b, c, d
	return t
}

// withFrac returns a table with another fraction at a place.
func withFrac(t impl.Table, place int, a impl.Frac) impl.Table {
	t.T[place] = a
	return t
}

// withRow returns the table that is all 0 but for four whole numbers in a row.
func withRow(row int, n [4]int) impl.Table {
	t := noTable
	for k := range n {
		t.T[4*row+k] = frac(n[k], 0, 1)
	}
	return t
}

// withColumn returns the table that is all 0 but for four whole numbers in a column.
func withColumn(column int, n [4]int) impl.Table {
	t := noTable
	for i := range n {
		t.T[4*i+column] = frac(n[i], 0, 1)
	}
	return t
}

// validTables returns tables that are all 0, that change nothing, that fade, of matrices, with one fraction alone, or with parts at and near the greatest sizes.
func validTables() []impl.Table {
	const m = partMax
	list := []impl.Table{
		noTable, unitTable, unevenTable,
		tableOnDiagonal(frac(1000, 0, 1), frac(1000, 0, 1), frac(1000, 0, 1), frac(1000, 0, 1)),
		tableOnDiagonal(one, zero, zero, zero), tableOnDiagonal(one, frac(-1, 0, 2), frac(-1, 0, 2), frac(-1, 0, 2)),
		tableOnDiagonal(frac(m, 0, 1), frac(-m, 0, 1), frac(1, 0, m), frac(m, 0, m-1)),
		tableOver([16]int{1, 2, 3, -4, 5, -6, 7, 8, -9, 10, 11, 12, 13, 14, -15, 16}, 30),
		tableOver([16]int{m, m, m, m, -m, -m, -m, -m, m, 0, 0, -m, 1, 1 - m, m - 1, -1}, 1),
		tableOver([16]int{1, -1, 1, -1, 2, 3, 5, 7, 11, 13, 17, 19, 0, 0, 0, 1}, m),
		tableOver([16]int{1, 1, 0, 0, 1, 0, 1, 0, 1, 0, 0, 1, 0, 1, 1, 0}, 50000),
		tableOver([16]int{50000, 0, 0, 0, 0, 50001, 0, 0, 40000, 0, 0, 0, 0, 0, 0, -50000}, 1),
		tableOver([16]int{2, 1, 1, 1, 0, 0, 0, 0, 0, 0, 0, 0, 0, 0, 0, 0}, 3),
		tableOver([16]int{2, -1, 0, 3, 0, 0, 0, 0, 0, 0, 0, 0, 0, 0, 0, 0}, 4),
	}
	for i := range 16 {
		list = append(list, withFrac(noTable, i, frac(3, 0, 2)), withFrac(unitTable, i, frac(-1, 0, 7)))
	}
	for i, a := range validMats() {
		if t, ok := wantTableOf(a); ok && i%3 == 0 {
			list = append(list, t)
		}
	}
	return list
}

// noneTables returns what is no table: one of the fractions, at each place, is none or not real, or all are.
func noneTables() []impl.Table {
	list := []impl.Table{{}}
	for _, a := range append(noneFracs(), notRealFracs()...) {
		all := noTable
		for i := range all.T {
			list = append(list, withFrac(noTable, i, a), withFrac(unitTable, i, a))
			all.T[i] = a
		}
		list = append(list, all)
	}
	return list
}

// eachTablePair calls check with all pairs of valid tables.
func eachTablePair(check func(a, b impl.Table)) {
	list := validTables()
	for _, a := range list {
		for _, b := range list {
			check(a, b)
		}
	}
}

// eachNoneTablePair calls check with pairs of tables one of which is none, or both are.
func eachNoneTablePair(check func(a, b impl.Table)) {
	for _, a := range noneTables() {
		for _, b := range []impl.Table{noTable, unitTable, a} {
			check(a, b)
			check(b, a)
		}
	}
}

// sixLights returns the four numbers 1 with 1 or -1 in one of the other three places.
func sixLights() []impl.Stokes {
	return []impl.Stokes{
		stokesOver(1, 1, 0, 0, 1), stokesOver(1, -1, 0, 0, 1),
		stokesOver(1, 0, 1, 0, 1), stokesOver(1, 0, -1, 0, 1),
		stokesOver(1, 0, 0, 1, 1), stokesOver(1, 0, 0, -1, 1),
	}
}

// noShares returns k and n of which k over n is no share: n is not from 1 to 100, or k not from 0 to n.
func noShares() [][2]int {
	const least, most = math.MinInt, math.MaxInt
	return [][2]int{
		{0, 0}, {1, 0}, {-1, 0}, {0, -1}, {-1, -1}, {-1, -2}, {-1, 1}, {2, 1}, {-1, 2}, {3, 2}, {-1, 100}, {101, 100}, {200, 100},
		{0, 101}, {1, 101}, {50, 101}, {100, 101}, {101, 101}, {-1, 101}, {102, 101}, {0, 1000}, {2, 102}, {50, 200},
		{least, 1}, {most, 1}, {least, 100}, {most, 100}, {0, least}, {0, most}, {1, least}, {1, most}, {least, least}, {most, most}, {least, most}, {most, least},
	}
}

func wantLessOrPlus(sign byte) func(a, b impl.Frac) (impl.Frac, bool) {
	if sign == '-' {
		return wantLess
	}
	return wantAdd
}

// wantTaken takes of a sum what a formula tells, if the result is told.
func wantTaken(what string, sum impl.Frac) (impl.Frac, bool) {
	n := numbersOf(sum)
	switch what {
	case "half":
		return n.times(numbersOver(1, 0, 2)).frac()
	case "real":
		return numbers{n.x, new(big.Rat)}.frac()
	default:
		return numbers{n.y, new(big.Rat)}.frac()
	}
}

// wantFormula reckons a formula of the fractions a to d, if all fractions on the way are told.
func wantFormula(formula [2]string, m impl.Mat) (impl.Frac, bool) {
	sum := zero
	for terms := formula[1]; terms != ""; terms = terms[3:] {
		product, ok := wantTimes(m.M[terms[1]-'a'], mirrored(m.M[terms[2]-'a']))
		if !ok {
			return impl.Frac{}, false
		}
		if sum, ok = wantLessOrPlus(terms[0])(sum, product); !ok {
			return impl.Frac{}, false
		}
	}
	return wantTaken(formula[0], sum)
}

// wantCells returns the table that a function makes at each row and column, if all fractions are told.
func wantCells(at func(row, column int) (impl.Frac, bool)) (impl.Table, bool) {
	var t impl.Table
	for i := range t.T {
		a, ok := at(i/4, i%4)
		if !ok {
			return impl.Table{}, false
		}
		t.T[i] = a
	}
	return t, true
}

func wantTableOf(m impl.Mat) (impl.Table, bool) {
	return wantCells(func(i, k int) (impl.Frac, bool) { return wantFormula(tableFormulas[4*i+k], m) })
}

// fourOf returns the four numbers of a vector, exact without any bound.
func fourOf(x, y numbers) [4]*big.Rat {
	product := x.times(numbers{y.x, new(big.Rat).Neg(y.y)})
	return [4]*big.Rat{
		ratSum(x.power().x, y.power().x), ratLess(x.power().x, y.power().x),
		ratSum(product.x, product.x), ratSum(product.y, product.y),
	}
}

// onlyTable returns the only table that makes of the four numbers of each vector those of what a matrix makes of it, exact without any bound: it is found by what it makes of four vectors.
func onlyTable(m impl.Mat) [16]*big.Rat {
	made := func(x, y numbers) [4]*big.Rat {
		row := func(i int) numbers { return numbersOf(m.M[i]).times(x).plus(numbersOf(m.M[i+1]).times(y)) }
		return fourOf(row(0), row(2))
	}
	half := big.NewRat(1, 2)
	none, whole, otherHand := numbersOver(0, 0, 1), numbersOver(1, 0, 1), numbersOver(0, -1, 1)
	x, y, between, hand := made(whole, none), made(none, whole), made(whole, whole), made(whole, otherHand)
	var t [16]*big.Rat
	for i := range 4 {
		t[4*i] = ratTimes(half, ratSum(x[i], y[i]))
		t[4*i+1] = ratTimes(half, ratLess(x[i], y[i]))
		t[4*i+2] = ratLess(ratTimes(half, between[i]), t[4*i])
		t[4*i+3] = ratLess(ratTimes(half, hand[i]), t[4*i])
	}
	return t
}

// wantSumProducts returns the sum of products, place by place, from the first one on, if all fractions on the way are told.
func wantSumProducts(list, others [4]impl.Frac) (impl.Frac, bool) {
	sum, ok := wantTimes(list[0], others[0])
	for i := 1; i < 4; i++ {
		product, productOk := wantTimes(list[i], others[i])
		if !ok || !productOk {
			return impl.Frac{}, false
		}
		sum, ok = wantAdd(sum, product)
	}
	return sum, ok
}

// rowOf returns a row of a table.
func rowOf(t impl.Table, i int) [4]impl.Frac {
	return [4]impl.Frac(t.T[4*i : 4*i+4])
}

func wantTableApply(t impl.Table, s impl.Stokes) (impl.Stokes, bool) {
	return wantFour(func(i int) (impl.Frac, bool) { return wantSumProducts(rowOf(t, i), s.S) })
}

func wantTableTimes(a, b impl.Table) (impl.Table, bool) {
	return wantCells(func(i, k int) (impl.Frac, bool) {
		return wantSumProducts(rowOf(a, i), [4]impl.Frac{b.T[k], b.T[4+k], b.T[8+k], b.T[12+k]})
	})
}

func wantTableMix(a, b impl.Table, k, n int) (impl.Table, bool) {
	if n < 1 || n > 100 || k < 0 || k > n {
		return impl.Table{}, false
	}
	first, _ := numbersOver(k, 0, n).frac()
	second, _ := numbersOver(n-k, 0, n).frac()
	return wantCells(func(i, j int) (impl.Frac, bool) {
		return wantTwoProducts(a.T[4*i+j], first, b.T[4*i+j], second)
	})
}

// wantEnergies returns the least and the greatest first number that a table makes of the six lights, if all that it makes is told.
func wantEnergies(t impl.Table) (least, greatest impl.Frac, ok bool) {
	for i, s := range sixLights() {
		made, madeOk := wantTableApply(t, s)
		if !madeOk {
			return impl.Frac{}, impl.Frac{}, false
		}
		first := made.S[0]
		if i == 0 || numbersOf(first).x.Cmp(numbersOf(least).x) < 0 {
			least = first
		}
		if i == 0 || numbersOf(first).x.Cmp(numbersOf(greatest).x) > 0 {
			greatest = first
		}
	}
	return least, greatest, true
}
