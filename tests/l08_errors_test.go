package tests

import (
	"testing"

	"loop.example/g01245/impl"
)

// callsOfChapter8 has numbers out of their ranges, as callsOfChapter1 has.
func callsOfChapter8() []call {
	type polys = []impl.Poly
	return []call{
		{"PowerSum", 0, func(p int64, a polys) []any { return results(impl.PowerSum(p, -1, -1)) }},
		{"PowerSum", 0, func(p int64, a polys) []any { return results(impl.PowerSum(p, 2, impl.MaxExponent)) }},
		{"DigitSum", 0, func(p int64, a polys) []any { return results(impl.DigitSum(p, -1)) }},
		{"ZetaAt", 0, func(p int64, a polys) []any { return results(impl.ZetaAt(p, -1)) }},
		{"NestedSum", 0, func(p int64, a polys) []any { return results(impl.NestedSum(p, -1, -1, -1)) }},
		{"QuadraticSymbol", 2, func(p int64, a polys) []any { return results(impl.QuadraticSymbol(p, a[0], a[1])) }},
		{"SymbolPolynomial", 1, func(p int64, a polys) []any { return results(impl.SymbolPolynomial(p, a[0])) }},
		{"ClassSum", 1, func(p int64, a polys) []any { return results(impl.ClassSum(p, a[0])) }},
		{"SymbolSum", 1, func(p int64, a polys) []any { return results(impl.SymbolSum(p, a[0], -1)) }},
		{"SymbolSum", 1, func(p int64, a polys) []any { return results(impl.SymbolSum(p, a[0], 1)) }},
		{"ShiftedSum", 1, func(p int64, a polys) []any { return results(impl.ShiftedSum(p, a[0], -1, -1)) }},
		{"ShiftedSum", 1, func(p int64, a polys) []any { return results(impl.ShiftedSum(p, a[0], 2, impl.MaxExponent)) }},
		{"FirstVanishing", 0, func(p int64, a polys) []any { return results(impl.FirstVanishing(p, 0)) }},
	}
}

// Numbers in their ranges do not make up for a wrong prime, nor does a modulus.
func TestWrongPrimesOfSums(t *testing.T) {
	for _, p := range notPrimes {
		for _, n := range []int64{0, 1, 2, 8, 9, impl.MaxExponent, impl.MaxExponent + 1} {
			expectCode(t, "PowerSum", results(impl.PowerSum(p, n, n)), impl.ErrInvalid)
			expectCode(t, "DigitSum", results(impl.DigitSum(p, n)), impl.ErrInvalid)
			expectCode(t, "ZetaAt", results(impl.ZetaAt(p, n)), impl.ErrInvalid)
			expectCode(t, "NestedSum", results(impl.NestedSum(p, n, n, n)), impl.ErrInvalid)
			expectCode(t, "FirstVanishing", results(impl.FirstVanishing(p, n)), impl.ErrInvalid)
			for _, m := range []impl.Poly{monomial(1), {1, 1}, {1, 0, 1}, monomial(5)} {
				expectCode(t, "QuadraticSymbol", results(impl.QuadraticSymbol(p, impl.Poly{1}, m)), impl.ErrInvalid)
				expectCode(t, "SymbolPolynomial", results(impl.SymbolPolynomial(p, m)), impl.ErrInvalid)
				expectCode(t, "ClassSum", results(impl.ClassSum(p, m)), impl.ErrInvalid)
				expectCode(t, "SymbolSum", results(impl.SymbolSum(p, m, n)), impl.ErrInvalid)
				expectCode(t, "ShiftedSum", results(impl.ShiftedSum(p, m, n, n)), impl.ErrInvalid)
			}
		}
		expectCode(t, "DigitSum", results(impl.DigitSum(p, impl.MaxNumber)), impl.ErrInvalid)
		expectCode(t, "DigitSum", results(impl.DigitSum(p, impl.MaxNumber+1)), impl.ErrInvalid)
	}
}

// What is no polynomial comes before what is no modulus, before numbers, and before the prime 2.
func TestWrongPolysOfSums(t *testing.T) {
	for _, p := range primes {
		for _, at := range []int{0, 1, 5, 6, 12, 13, 63} {
			for _, c := range []byte{byte(p), byte(p) + 1, 2 * byte(p), 255} {
				wrong := monomial(5)
				wrong[at] = c
				for _, m := range append(noModuli(p), monomial(1), monomial(5), wrong) {
					expectCode(t, "QuadraticSymbol", results(impl.QuadraticSymbol(p, wrong, m)), impl.ErrInvalid)
					expectCode(t, "QuadraticSymbol", results(impl.QuadraticSymbol(p, m, wrong)), impl.ErrInvalid)
				}
				expectCode(t, "SymbolPolynomial", results(impl.SymbolPolynomial(p, wrong)), impl.ErrInvalid)
				expectCode(t, "ClassSum", results(impl.ClassSum(p, wrong)), impl.ErrInvalid)
				for _, n := range []int64{-1, 0, 1, 8, 9, 41} {
					expectCode(t, "SymbolSum", results(impl.SymbolSum(p, wrong, n)), impl.ErrInvalid)
					expectCode(t, "ShiftedSum", results(impl.ShiftedSum(p, wrong, n, 1)), impl.ErrInvalid)
					expectCode(t, "ShiftedSum", results(impl.ShiftedSum(p, wrong, 1, n)), impl.ErrInvalid)
				}
			}
		}
	}
}

// Numbers are in their ranges, or they are not; powers would be too great.
func TestWhatIsNoModulusOfSums(t *testing.T) {
	for _, p := range primes {
		for _, m := range noModuli(p) {
			expectCode(t, "SymbolPolynomial", results(impl.SymbolPolynomial(p, m)), impl.ErrRange)
			expectCode(t, "ClassSum", results(impl.ClassSum(p, m)), impl.ErrRange)
			for _, n := range []int64{-1, 0, 1, 3, 9} {
				expectCode(t, "SymbolSum", results(impl.SymbolSum(p, m, n)), impl.ErrRange)
				for _, k := range []int64{-1, 0, 1, impl.MaxExponent, impl.MaxExponent + 1} {
					expectCode(t, "ShiftedSum", results(impl.ShiftedSum(p, m, n, k)), impl.ErrRange)
				}
			}
		}
		for n := 1; n <= impl.MaxModulus; n++ {
			expectCode(t, "SymbolSum", results(impl.SymbolSum(p, monomial(n), 1)), impl.ErrNone)
			expectCode(t, "ShiftedSum", results(impl.ShiftedSum(p, monomial(n), 1, 1)), impl.ErrNone)
			for c := byte(2); c < byte(p); c++ {
				m := plusTimes(p, impl.Poly{1}, c, monomial(n))
				expectCode(t, "QuadraticSymbol", results(impl.QuadraticSymbol(p, impl.Poly{}, m)), impl.ErrRange)
				expectCode(t, "SymbolPolynomial", results(impl.SymbolPolynomial(p, m)), impl.ErrRange)
				expectCode(t, "ClassSum", results(impl.ClassSum(p, m)), impl.ErrRange)
				expectCode(t, "SymbolSum", results(impl.SymbolSum(p, m, 0)), impl.ErrRange)
				expectCode(t, "ShiftedSum", results(impl.ShiftedSum(p, m, 0, 0)), impl.ErrRange)
			}
		}
	}
}

func TestQuadraticSymbolsOutOfRange(t *testing.T) {
	for _, p := range oddPrimes {
		list := []impl.Poly{{}, {1}, {2}, {byte(p - 1)}, monomial(63), full(p, 63)}
		for n := 1; n <= impl.MaxSplit; n++ {
			list = append(list, full(p, n))
			expectCode(t, "QuadraticSymbol", results(impl.QuadraticSymbol(p, full(p, 63), monomial(n))), impl.ErrNone)
		}
		for n := impl.MaxSplit + 1; n <= impl.MaxDegree; n++ {
			list = append(list, monomial(n), full(p, n))
		}
		for _, m := range list {
			for _, a := range []impl.Poly{{}, {1}, m, monomial(1), full(p, 63)} {
				expectCode(t, "QuadraticSymbol", results(impl.QuadraticSymbol(p, a, m)), impl.ErrRange)
			}
		}
	}
}

// Each polynomial for 2 is a modulus or is none: both are out of range.
func TestNoQuadraticSymbolsForTwo(t *testing.T) {
	list := append(noModuli(2), moduli(2, impl.MaxModulus, 32)...)
	for n := range impl.MaxDegree + 1 {
		list = append(list, monomial(n), full(2, n))
	}
	for _, m := range list {
		for _, a := range []impl.Poly{{}, {1}, m, monomial(1), full(2, 63)} {
			expectCode(t, "QuadraticSymbol", results(impl.QuadraticSymbol(2, a, m)), impl.ErrRange)
		}
		expectCode(t, "SymbolPolynomial", results(impl.SymbolPolynomial(2, m)), impl.ErrRange)
		expectCode(t, "ClassSum", results(impl.ClassSum(2, m)), impl.ErrRange)
	}
}

// The other numbers are small, or the powers would be too great, which comes later.
func TestNumbersOfSumsOutOfRange(t *testing.T) {
	for _, p := range primes {
		degrees := append([]int64{9, 10, 20, 21, 63, 64, 1 << 31, 1<<63 - 2}, extremes...)
		for d := mostSummed[p] + 1; d <= 8; d++ {
			degrees = append(degrees, d)
		}
		for _, d := range degrees {
			for _, k := range []int64{-1, 0, 1, impl.MaxExponent, impl.MaxExponent + 1} {
				expectCode(t, "PowerSum", results(impl.PowerSum(p, d, k)), impl.ErrRange)
				expectCode(t, "NestedSum", results(impl.NestedSum(p, d, k, 0)), impl.ErrRange)
				expectCode(t, "NestedSum", results(impl.NestedSum(p, d, 0, k)), impl.ErrRange)
				for n := 1; n <= impl.MaxModulus; n++ {
					expectCode(t, "ShiftedSum", results(impl.ShiftedSum(p, monomial(n), d, k)), impl.ErrRange)
					expectCode(t, "SymbolSum", results(impl.SymbolSum(p, monomial(n), d)), impl.ErrRange)
				}
			}
		}
		for _, k := range append([]int64{impl.MaxExponent + 1, impl.MaxExponent + 2, 63, 64, 1 << 31}, extremes...) {
			expectCode(t, "ZetaAt", results(impl.ZetaAt(p, k)), impl.ErrRange)
			expectCode(t, "FirstVanishing", results(impl.FirstVanishing(p, k)), impl.ErrRange)
			for _, d := range []int64{-1, 0, 1, 3, 9} {
				expectCode(t, "PowerSum", results(impl.PowerSum(p, d, k)), impl.ErrRange)
				expectCode(t, "ShiftedSum", results(impl.ShiftedSum(p, monomial(5), d, k)), impl.ErrRange)
				for _, l := range []int64{0, 1, impl.MaxExponent} {
					expectCode(t, "NestedSum", results(impl.NestedSum(p, d, k, l)), impl.ErrRange)
					expectCode(t, "NestedSum", results(impl.NestedSum(p, d, l, k)), impl.ErrRange)
				}
			}
		}
		expectCode(t, "FirstVanishing", results(impl.FirstVanishing(p, 0)), impl.ErrRange)
		expectCode(t, "ZetaAt", results(impl.ZetaAt(p, 0)), impl.ErrNone)
		for _, k := range []int64{-1, impl.MaxNumber + 1, 1<<63 - 1, -1 << 63, 1 << 40, 1 << 62} {
			expectCode(t, "DigitSum", results(impl.DigitSum(p, k)), impl.ErrRange)
		}
		expectCode(t, "DigitSum", results(impl.DigitSum(p, impl.MaxNumber)), impl.ErrNone)
	}
}
