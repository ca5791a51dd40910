package tests

import (
	"testing"

	"loop.example/g01245/impl"
)

// extremes are beyond every range of numbers.
var extremes = []int64{-1, 1<<63 - 1, -1 << 63, 1 << 32, 1<<32 + 3, -1 << 32, 259}

// callsOfChapter2 has numbers out of their ranges, as callsOfChapter1 has.
func callsOfChapter2() []call {
	type polys = []impl.Poly
	return []call{
		{"IsIrreducible", 1, func(p int64, a polys) []any { return results(impl.IsIrreducible(p, a[0])) }},
		{"IrreduciblesOf", 0, func(p int64, a polys) []any { return results(impl.IrreduciblesOf(p, 0)) }},
		{"CountIrreducibles", 0, func(p int64, a polys) []any { return results(impl.CountIrreducibles(p, 0)) }},
		{"FactorsOf", 1, func(p int64, a polys) []any { return results(impl.FactorsOf(p, a[0])) }},
		{"MoebiusOf", 1, func(p int64, a polys) []any { return results(impl.MoebiusOf(p, a[0])) }},
		{"EulerOf", 1, func(p int64, a polys) []any { return results(impl.EulerOf(p, a[0])) }},
		{"InverseModulo", 2, func(p int64, a polys) []any { return results(impl.InverseModulo(p, a[0], a[1])) }},
		{"OrderModulo", 2, func(p int64, a polys) []any { return results(impl.OrderModulo(p, a[0], a[1])) }},
		{"PrimitiveOf", 1, func(p int64, a polys) []any { return results(impl.PrimitiveOf(p, a[0])) }},
		{"LogarithmOf", 3, func(p int64, a polys) []any { return results(impl.LogarithmOf(p, a[0], a[1], a[2])) }},
		{"SymbolOf", 2, func(p int64, a polys) []any { return results(impl.SymbolOf(p, a[0], a[1])) }},
		{"RestForTwo", 4, func(p int64, a polys) []any { return results(impl.RestForTwo(p, a[0], a[1], a[2], a[3])) }},
	}
}

// noModuli are polynomials of degrees that no modulus has, and such as are not monic.
func noModuli(p int64) []impl.Poly {
	list := []impl.Poly{{}, {1}, {byte(p - 1)}, monomial(6), monomial(7), monomial(12), monomial(63), full(p, 63)}
	if p > 2 {
		list = append(list, impl.Poly{0, 2}, full(p, 1), full(p, 3), full(p, 5), impl.Poly{1, 1, 0, 0, 0, 2})
	}
	return list
}

// The residues are units, non-units and greater than every modulus: all that comes later.
func TestWhatIsNoModulus(t *testing.T) {
	for _, p := range primes {
		for _, m := range noModuli(p) {
			expectCode(t, "PrimitiveOf", results(impl.PrimitiveOf(p, m)), impl.ErrRange)
			for _, a := range []impl.Poly{{}, {1}, monomial(1), full(p, 63)} {
				expectCode(t, "InverseModulo", results(impl.InverseModulo(p, a, m)), impl.ErrRange)
				expectCode(t, "OrderModulo", results(impl.OrderModulo(p, a, m)), impl.ErrRange)
				expectCode(t, "LogarithmOf", results(impl.LogarithmOf(p, a, a, m)), impl.ErrRange)
				expectCode(t, "LogarithmOf", results(impl.LogarithmOf(p, a, impl.Poly{}, m)), impl.ErrRange)
				for _, n := range []impl.Poly{m, monomial(1), monomial(5), {1, 0, 1}} {
					expectCode(t, "RestForTwo", results(impl.RestForTwo(p, a, m, a, n)), impl.ErrRange)
					expectCode(t, "RestForTwo", results(impl.RestForTwo(p, a, n, a, m)), impl.ErrRange)
				}
			}
		}
	}
}

func TestModuliAtMaxModulus(t *testing.T) {
	for _, p := range primes {
		m := monomial(impl.MaxModulus)
		minus := impl.Poly{byte(p - 1)}
		expect(t, "InverseModulo", results(impl.InverseModulo(p, minus, m)), minus)
		expect(t, "RestForTwo", results(impl.RestForTwo(p, minus, m, minus, impl.Poly{1, 1})), minus)
		above := monomial(impl.MaxModulus + 1)
		expectCode(t, "InverseModulo", results(impl.InverseModulo(p, minus, above)), impl.ErrRange)
		expectCode(t, "RestForTwo", results(impl.RestForTwo(p, minus, impl.Poly{1, 1}, minus, above)), impl.ErrRange)
	}
}

func TestDegreesOutOfRange(t *testing.T) {
	for _, p := range primes {
		for _, n := range []int{impl.MaxSplit + 1, impl.MaxSplit + 2, 24, 62, 63} {
			for _, a := range []impl.Poly{monomial(n), full(p, n)} {
				expectCode(t, "IsIrreducible", results(impl.IsIrreducible(p, a)), impl.ErrRange)
				expectCode(t, "FactorsOf", results(impl.FactorsOf(p, a)), impl.ErrRange)
				expectCode(t, "MoebiusOf", results(impl.MoebiusOf(p, a)), impl.ErrRange)
				expectCode(t, "EulerOf", results(impl.EulerOf(p, a)), impl.ErrRange)
				expectCode(t, "SymbolOf", results(impl.SymbolOf(p, impl.Poly{1}, a)), impl.ErrRange)
			}
		}
		expectCode(t, "FactorsOf 0", results(impl.FactorsOf(p, impl.Poly{})), impl.ErrRange)
		expectCode(t, "MoebiusOf 0", results(impl.MoebiusOf(p, impl.Poly{})), impl.ErrRange)
		expectCode(t, "EulerOf 0", results(impl.EulerOf(p, impl.Poly{})), impl.ErrRange)
		for c := byte(1); c < byte(p); c++ {
			expectCode(t, "EulerOf a number", results(impl.EulerOf(p, impl.Poly{c})), impl.ErrRange)
		}
	}
}

func TestSymbolsOutOfRange(t *testing.T) {
	for _, p := range primes {
		list := []impl.Poly{{}, {1}, {byte(p - 1)}}
		for n := 1; n <= impl.MaxSplit && p > 2; n++ {
			list = append(list, full(p, n))
		}
		for _, m := range list {
			for _, a := range []impl.Poly{{}, {1}, m, full(p, 63)} {
				expectCode(t, "SymbolOf", results(impl.SymbolOf(p, a, m)), impl.ErrRange)
			}
		}
	}
}

func TestNumbersOutOfRange(t *testing.T) {
	greatest := map[int64]int64{2: 8, 3: 5, 5: 3, 7: 3}
	for _, p := range primes {
		for _, n := range append([]int64{0, greatest[p] + 1, 20, 21, 22, 23, 63, 64, 65}, extremes...) {
			expectCode(t, "IrreduciblesOf", results(impl.IrreduciblesOf(p, n)), impl.ErrRange)
		}
		for _, n := range append([]int64{0, 21, 22, 63, 64}, extremes...) {
			expectCode(t, "CountIrreducibles", results(impl.CountIrreducibles(p, n)), impl.ErrRange)
		}
	}
}
