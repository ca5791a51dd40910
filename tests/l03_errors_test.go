package tests

import (
	"slices"
	"testing"

	"loop.example/g01245/impl"
)

// skewCall is a function of chapter 3 with everything but its field, its skew polynomials and
// its residues given.
type skewCall struct {
	name     string
	skews    int
	residues int
	run      func(p int64, m impl.Poly, f []impl.Skew, x []impl.Poly) []any
}

// callsOfChapter3 has numbers out of their ranges, as callsOfChapter1 has.
func callsOfChapter3() []skewCall {
	type poly = impl.Poly
	type skews = []impl.Skew
	type polys = []impl.Poly
	return []skewCall{
		{"SkewDegree", 1, 0, func(p int64, m poly, f skews, x polys) []any { return results(impl.SkewDegree(p, m, f[0])) }},
		{"AddSkews", 2, 0, func(p int64, m poly, f skews, x polys) []any { return results(impl.AddSkews(p, m, f[0], f[1])) }},
		{"MultiplySkews", 2, 0, func(p int64, m poly, f skews, x polys) []any { return results(impl.MultiplySkews(p, m, f[0], f[1])) }},
		{"PowerOfSkew", 1, 0, func(p int64, m poly, f skews, x polys) []any { return results(impl.PowerOfSkew(p, m, f[0], -1)) }},
		{"PowerOfSkew", 1, 0, func(p int64, m poly, f skews, x polys) []any { return results(impl.PowerOfSkew(p, m, f[0], 1001)) }},
		{"PowerOfSkew", 1, 0, func(p int64, m poly, f skews, x polys) []any { return results(impl.PowerOfSkew(p, m, f[0], 1000)) }},
		{"DivideRight", 2, 0, func(p int64, m poly, f skews, x polys) []any { return results(impl.DivideRight(p, m, f[0], f[1])) }},
		{"DivideLeft", 2, 0, func(p int64, m poly, f skews, x polys) []any { return results(impl.DivideLeft(p, m, f[0], f[1])) }},
		{"RightDivisor", 2, 0, func(p int64, m poly, f skews, x polys) []any { return results(impl.RightDivisor(p, m, f[0], f[1])) }},
		{"LeftMultiple", 2, 0, func(p int64, m poly, f skews, x polys) []any { return results(impl.LeftMultiple(p, m, f[0], f[1])) }},
		{"ValueOfSkew", 1, 1, func(p int64, m poly, f skews, x polys) []any { return results(impl.ValueOfSkew(p, m, f[0], x[0])) }},
		{"KernelOfSkew", 1, 0, func(p int64, m poly, f skews, x polys) []any { return results(impl.KernelOfSkew(p, m, f[0])) }},
		{"LeastSkew", 0, 3, func(p int64, m poly, f skews, x polys) []any { return results(impl.LeastSkew(p, m, x)) }},
		{"LeastSkew of nothing", 0, 0, func(p int64, m poly, f skews, x polys) []any { return results(impl.LeastSkew(p, m, x)) }},
	}
}

func allSkewCalls() []skewCall {
	return slices.Concat(callsOfChapter3(), skewCallsOfChapter5(), callsOfChapter9())
}

// noFields returns what is not monic, reducible, a number, of the degree 5 or more, or no
// polynomial.
func noFields(p int64) []impl.Poly {
	list := []impl.Poly{{}, {1}, {byte(p - 1)}, monomial(2), monomial(3), monomial(4), monomial(5), monomial(63), full(p, 63)}
	s := &sampler{state: uint64(p)}
	square := plainPower(p, s.irreducible(p, 2), 2)
	list = append(list, s.irreducible(p, 5), s.irreducible(p, 6), s.irreducible(p, 8), square)
	list = append(list, plainPower(p, impl.Poly{1, 1}, 2), plainPower(p, impl.Poly{byte(p - 1), 1}, 4))
	for n := 1; n <= 4; n++ {
		m := s.irreducible(p, n)
		for _, i := range []int{0, n, n + 1, 63} {
			wrong := m
			wrong[i] += byte(p)
			list = append(list, wrong)
			wrong[i] = 255
			list = append(list, wrong)
		}
		if p > 2 {
			for i := range n + 1 {
				m[i] = m[i] * byte(p-1) % byte(p)
			}
			list = append(list, m)
		}
	}
	return list
}

// noResidues returns polynomials of the degree of the field and of greater ones, and what is no
// polynomial.
func noResidues(k *tower) []impl.Poly {
	above := monomial(k.degree())
	wrong, wide, far := impl.Poly{byte(k.p)}, impl.Poly{255}, impl.Poly{}
	far[63] = byte(k.p)
	last := impl.Poly{}
	last[k.degree()-1] = byte(k.p)
	return []impl.Poly{above, k.m, monomial(k.degree() + 1), monomial(63), wrong, wide, far, last}
}

// The skew polynomials are 0, or products of them would be too great: all that comes later.
func TestWrongFieldsComeFirst(t *testing.T) {
	for _, c := range allSkewCalls() {
		for _, f := range []impl.Skew{{}, one(), tau(impl.Poly{1}, impl.MaxSkew)} {
			skews, polys := slices.Repeat([]impl.Skew{f}, c.skews), make([]impl.Poly, c.residues)
			for _, p := range primes {
				for _, m := range noFields(p) {
					expectCode(t, c.name, c.run(p, m, skews, polys), impl.ErrInvalid)
				}
			}
			for _, p := range notPrimes {
				for _, m := range []impl.Poly{{}, {0, 1}, {1, 1, 1}, {1, 1, 0, 0, 1}} {
					expectCode(t, c.name, c.run(p, m, skews, polys), impl.ErrInvalid)
				}
			}
		}
	}
}

func TestWrongSkewsComeFirst(t *testing.T) {
	s := &sampler{state: 55}
	for _, p := range primes {
		for _, k := range towers(s, p) {
			for _, c := range allSkewCalls() {
				for place := range c.skews {
					checkWrongSkew(t, k, c, place)
				}
			}
		}
	}
}

func checkWrongSkew(t *testing.T, k *tower, c skewCall, place int) {
	t.Helper()
	for _, other := range []impl.Skew{{}, tau(impl.Poly{1}, impl.MaxSkew)} {
		for _, x := range noResidues(k) {
			for _, i := range []int{0, 3, impl.MaxSkew} {
				list := slices.Repeat([]impl.Skew{other}, c.skews)
				list[place][i] = x
				got := c.run(k.p, k.m, list, make([]impl.Poly, c.residues))
				expectCode(t, c.name, got, impl.ErrInvalid)
			}
		}
	}
}

func TestWrongResiduesComeFirst(t *testing.T) {
	s := &sampler{state: 56}
	for _, p := range primes {
		for _, k := range towers(s, p) {
			for _, c := range allSkewCalls() {
				for place := range c.residues {
					for _, x := range noResidues(k) {
						list := make([]impl.Poly, c.residues)
						list[place] = x
						expectCode(t, c.name, c.run(p, k.m, make([]impl.Skew, c.skews), list), impl.ErrInvalid)
					}
				}
			}
		}
	}
}

// Powers out of their range come before the degree of what they would be.
func TestPowersOfSkewsOutOfRange(t *testing.T) {
	s := &sampler{state: 57}
	for _, p := range primes {
		for _, k := range towers(s, p) {
			for _, n := range []int64{-1, 1001, -1000, 1 << 16, 1<<32 + 3, 1<<63 - 1, -1 << 63} {
				for _, f := range []impl.Skew{{}, one(), tau(impl.Poly{1}, 1), s.skew(k, impl.MaxSkew)} {
					expectCode(t, "PowerOfSkew", results(impl.PowerOfSkew(p, k.m, f, n)), impl.ErrRange)
				}
			}
		}
	}
}
