package tests

import "math"

var (
	inf      = math.Inf(1)
	nan      = math.NaN()
	minus0   = math.Copysign(0, -1)
	single0  = float32(minus0)
	singleNo = float32(nan)
	above1   = float32(1 + 1.0/8192)
	below1   = float32(1 - 1.0/8192)
)

// wideNumbers returns all wide numbers with parts that are ordinary, at the edges of the width, infinite, NaN or a zero of either sign.
func wideNumbers() []complex128 {
	parts := []float64{
		0, minus0, 1, -1, 0.1, 0.3, -2.5, 3, 1e200, -1e308, math.MaxFloat64,
		math.SmallestNonzeroFloat64, 1e-200, inf, -inf, nan,
	}
	var list []complex128
	for _, x := range parts {
		for _, y := range parts {
			list = append(list, complex(x, y))
		}
	}
	return list
}

// singleNumbers returns the like of wideNumbers for single numbers.
func singleNumbers() []complex64 {
	parts := []float32{
		0, single0, 1, -1, 0.1, 0.3, -2.5, above1, below1, 1e30, math.MaxFloat32,
		math.SmallestNonzeroFloat32, float32(inf), float32(-inf), singleNo,
	}
	var list []complex64
	for _, x := range parts {
		for _, y := range parts {
			list = append(list, complex(x, y))
		}
	}
	return list
}

// exactly tells floats apart by the signs of zeros, and takes NaN for like NaN.
func exactly(a, b float64) bool {
	if math.IsNaN(a) || math.IsNaN(b) {
		return math.IsNaN(a) && math.IsNaN(b)
	}
	return math.Float64bits(a) == math.Float64bits(b)
}

// roughly is exactly with the signs of zeros left out.
func roughly(a, b float64) bool {
	return a == b || exactly(a, b)
}

func wideExactly(a, b complex128) bool {
	return exactly(real(a), real(b)) && exactly(imag(a), imag(b))
}

func wideRoughly(a, b complex128) bool {
	return roughly(real(a), real(b)) && roughly(imag(a), imag(b))
}

func singleExactly(a, b complex64) bool {
	return wideExactly(complex128(a), complex128(b))
}

func finite(x float64) bool {
	return !math.IsInf(x, 0) && !math.IsNaN(x)
}

func wideFinite(z complex128) bool {
	return finite(real(z)) && finite(imag(z))
}
