package cpu

import (
	"perilune/api"
	"perilune/onescomp"
)

const (
	signBit = 1 << 14
	base    = 1 << 14 // how much more the high word of a product or a dividend counts than the low one
)

// isNegative reports whether the sign bit of w is set, as it is in -0.
func isNegative(w api.Word) bool { return w&signBit != 0 }

// magnitude returns n without its sign.
func magnitude(n int) int { return max(n, -n) }

// signed returns the word n, or its complement.
func signed(n int, negative bool) api.Word {
	w := api.Word(n)
	if negative {
		return onescomp.Neg(w)
	}
	return w
}

// Multiply returns the product of two words as two words.
func Multiply(a, b api.Word) (hi, lo api.Word) {
	m := magnitude(onescomp.Value(a) * onescomp.Value(b))
	negative := isNegative(a) != isNegative(b)
	return signed(m/base, negative), signed(m%base, negative)
}

// dividendOf returns the magnitude and the sign of a dividend of two words.
func dividendOf(hi, lo api.Word) (n int, negative bool) {
	high := onescomp.Value(hi)
	negative = isNegative(hi)
	if high == 0 {
		negative = isNegative(lo)
	}
	return magnitude(base*high + onescomp.Value(lo)), negative
}

// Divide returns the quotient and the remainder of two words, divided by a word.
func Divide(hi, lo, d api.Word) (q, r api.Word) {
	n, negative := dividendOf(hi, lo)
	m := magnitude(onescomp.Value(d))
	differ := negative != isNegative(d)
	if n >= base*m { // the quotient does not fit, or d is zero
		return signed(api.MaxOne, differ), lo & api.MaxWord
	}
	return signed(n/m, differ), signed(n%m, negative)
}
