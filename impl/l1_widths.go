package impl

// width is a complex number of either of the two widths.
type width interface {
	complex64 | complex128
}

// times returns the product of two numbers of one width, reckoned in wide parts.
func times[C width](a C, b C) C {
	x, y := real(complex128(a)), imag(complex128(a))
	v, w := real(complex128(b)), imag(complex128(b))
	// Without a conversion of its own, a product may be fused with the sum around it and lose its rounding.
	return C(complex(float64(x*v)-float64(y*w), float64(x*w)+float64(y*v)))
}

// WideTimes returns the wide number with the parts float64(x*v) - float64(y*w) and float64(x*w) + float64(y*v) for two wide numbers x + yi and v + wi.
func WideTimes(a complex128, b complex128) complex128 {
	return times(a, b)
}

// WideOver returns the quotient of two wide numbers as Go divides complex128.
func WideOver(a complex128, b complex128) complex128 {
	return a / b
}

// SingleTimes returns the wide product (WideTimes) of two single numbers, converted to complex64.
func SingleTimes(a complex64, b complex64) complex64 {
	return times(a, b)
}

// SingleOver returns the quotient of two single numbers as Go divides complex64.
func SingleOver(a complex64, b complex64) complex64 {
	return a / b
}

// WidePower returns the square of the size of a wide number, float64(x*x) + float64(y*y).
func WidePower(z complex128) float64 {
	x, y := real(z), imag(z)
	return float64(x*x) + float64(y*y)
}

// WideMirror returns the wide number with the opposite imaginary part.
func WideMirror(z complex128) complex128 {
	return complex(real(z), -imag(z))
}

// WideSame reports whether two wide numbers are equal (==).
func WideSame(a complex128, b complex128) bool {
	return a == b
}

// SingleUnlike reports whether two single numbers are not equal (!=).
func SingleUnlike(a complex64, b complex64) bool {
	return a != b
}

// SignedPair returns two wide numbers: the number with a sign + ahead, and with a sign - ahead.
func SignedPair(z complex128) (complex128, complex128) {
	return +z, -z
}
