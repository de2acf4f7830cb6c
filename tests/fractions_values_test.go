package tests

import (
	"math"
	"math/big"

	"loop.example/polarisedlight/impl"
)

const (
	partMax = 2000000000
	makeMax = 1000000000000000000
)

var (
	zero = frac(0, 0, 1)
	one  = frac(1, 0, 1)
)

func frac(re, im, den int) impl.Frac {
	return impl.Frac{Re: re, Im: im, Den: den}
}

func fracs(list [][3]int) []impl.Frac {
	var all []impl.Frac
	for _, n := range list {
		all = append(all, frac(n[0], n[1], n[2]))
	}
	return all
}

// validFracs returns exact fractions that are ordinary, or at and near the greatest sizes of parts, sums, products and powers.
func validFracs() []impl.Frac {
	const m = partMax
	return fracs([][3]int{
		{0, 0, 1}, {1, 0, 1}, {-1, 0, 1}, {0, 1, 1}, {0, -1, 1}, {1, 1, 1}, {1, -1, 1}, {2, 0, 1}, {-3, 5, 1},
		{1, 0, 2}, {-1, 0, 2}, {1, 0, 3}, {-1, 0, 6}, {0, 1, 4}, {1, -1, 2}, {2, 3, 6}, {6, 10, 15}, {-12, 0, 35},
		{3, 4, 5}, {-3, 4, 5}, {4, 3, 5}, {5, -12, 13}, {7, 24, 50},
		{m, 0, 1}, {-m, 0, 1}, {0, m, 1}, {0, -m, 1}, {m, -m, 1}, {-m, -m, 1}, {m - 1, 0, 1}, {1 - m, m - 1, 1},
		{1, 0, m}, {-1, 0, m}, {0, 1, m}, {1, 1, m}, {-3, 7, m}, {1, 0, m - 1}, {0, -1, m - 1},
		{m, 0, m - 1}, {-m, 0, m - 1}, {m, m, m - 1}, {0, m, m - 1}, {m - 1, 0, m}, {m - 1, m - 1, m}, {1 - m, 0, m}, {m, 1, m},
		{m / 2, 0, 1}, {m/2 + 1, 0, 1}, {-m / 2, m / 2, 1}, {1, 0, m / 2}, {-1, 1, m / 2}, {m/2 - 1, 0, m / 2},
		{44721, 0, 1}, {44722, 0, 1}, {0, -44721, 1}, {1, 0, 44721}, {1, 0, 44722}, {31622, 31623, 1}, {31623, 31623, 1},
		{40000, 0, 1}, {50000, 0, 1}, {50001, 0, 1}, {1, 0, 40000}, {0, 1, 50000}, {1, 0, 50001},
		{1200039999, 1599920000, 1999960001}, {1599920000, -1200039999, 1999960001}, {m - 1, 1, 16777217},
	})
}

// noneFracs returns what is no exact fraction: bottoms below 1, common divisors, and parts and bottoms that are too great.
func noneFracs() []impl.Frac {
	const m, least, most = partMax, math.MinInt, math.MaxInt
	return fracs([][3]int{
		{}, {1, 0, 0}, {0, 1, 0}, {1, 0, -1}, {0, 0, -1}, {-1, -1, -2}, {m, 0, -m},
		{0, 0, 2}, {2, 0, 2}, {0, 2, 2}, {-3, 0, 3}, {2, 4, 6}, {-3, 6, 9}, {0, -5, 10}, {0, 0, m}, {m, m, m}, {m, 0, 2}, {-2, 0, m},
		{m + 1, 0, 1}, {-m - 1, 0, 1}, {0, m + 1, 1}, {0, -m - 1, 1}, {m + 1, m + 1, 1}, {1, 0, m + 1}, {0, 1, m + 1}, {2 * m, 0, 2 * m},
		{least, 0, 1}, {0, least, 1}, {1, 0, least}, {least, least, least}, {least, least, 1}, {least, 0, 2}, {least + 1, 1, 3},
		{most, 0, 1}, {0, most, 1}, {1, 0, most}, {most, most, most}, {1, 1, most}, {least, 0, most}, {most, least, most - 1},
	})
}

// numbers are the parts of any complex fraction, exact without any bound.
type numbers struct {
	x, y *big.Rat
}

func numbersOf(a impl.Frac) numbers {
	return numbersOver(a.Re, a.Im, a.Den)
}

func numbersOver(re, im, den int) numbers {
	return numbers{big.NewRat(int64(re), int64(den)), big.NewRat(int64(im), int64(den))}
}

// frac returns the numbers over the least bottom of both, and whether this is an exact fraction.
func (n numbers) frac() (impl.Frac, bool) {
	divisor := new(big.Int).GCD(nil, nil, n.x.Denom(), n.y.Denom())
	bottom := new(big.Int).Mul(n.x.Denom(), n.y.Denom())
	bottom.Quo(bottom, divisor)
	parts := [3]*big.Int{topOver(n.x, bottom), topOver(n.y, bottom), bottom}
	for _, p := range parts {
		if p.CmpAbs(big.NewInt(partMax)) > 0 {
			return impl.Frac{}, false
		}
	}
	return frac(int(parts[0].Int64()), int(parts[1].Int64()), int(bottom.Int64())), true
}

// topOver returns the top of a number over a multiple of its bottom.
func topOver(x *big.Rat, bottom *big.Int) *big.Int {
	top := new(big.Int).Mul(x.Num(), bottom)
	return top.Quo(top, x.Denom())
}

func ratSum(x, y *big.Rat) *big.Rat {
	return new(big.Rat).Add(x, y)
}

func ratLess(x, y *big.Rat) *big.Rat {
	return new(big.Rat).Sub(x, y)
}

func ratTimes(x, y *big.Rat) *big.Rat {
	return new(big.Rat).Mul(x, y)
}

func (n numbers) plus(m numbers) numbers {
	return numbers{ratSum(n.x, m.x), ratSum(n.y, m.y)}
}

func (n numbers) minus(m numbers) numbers {
	return numbers{ratLess(n.x, m.x), ratLess(n.y, m.y)}
}

func (n numbers) times(m numbers) numbers {
	return numbers{
		ratLess(ratTimes(n.x, m.x), ratTimes(n.y, m.y)),
		ratSum(ratTimes(n.x, m.y), ratTimes(n.y, m.x)),
	}
}

func (n numbers) power() numbers {
	return numbers{ratSum(ratTimes(n.x, n.x), ratTimes(n.y, n.y)), new(big.Rat)}
}

// inverse is told for numbers that are not 0.
func (n numbers) inverse() numbers {
	over := new(big.Rat).Inv(n.power().x)
	return numbers{ratTimes(n.x, over), new(big.Rat).Neg(ratTimes(n.y, over))}
}

func wantAdd(a, b impl.Frac) (impl.Frac, bool) {
	return numbersOf(a).plus(numbersOf(b)).frac()
}

func wantLess(a, b impl.Frac) (impl.Frac, bool) {
	return numbersOf(a).minus(numbersOf(b)).frac()
}

func wantTimes(a, b impl.Frac) (impl.Frac, bool) {
	return numbersOf(a).times(numbersOf(b)).frac()
}

func wantOver(a, b impl.Frac) (impl.Frac, bool) {
	if b == zero {
		return impl.Frac{}, false
	}
	inverse := numbersOf(b).inverse()
	if _, ok := inverse.frac(); !ok {
		return impl.Frac{}, false
	}
	return numbersOf(a).times(inverse).frac()
}

func wantPower(a impl.Frac) (impl.Frac, bool) {
	return numbersOf(a).power().frac()
}
