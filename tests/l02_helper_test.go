package tests

import (
	"testing"

	"loop.example/g01245/impl"
)

// What follows finds the results of chapter 2 by trying everything, on arrays, for there is much
// to try.

func degreeOf(a impl.Poly) int {
	for i := len(a) - 1; i >= 0; i-- {
		if a[i] != 0 {
			return i
		}
	}
	return -1
}

func normOf(p int64, a impl.Poly) int64 {
	norm := int64(1)
	for range degreeOf(a) {
		norm *= p
	}
	return norm
}

// restBy is for a monic m.
func restBy(p int64, a, m impl.Poly) impl.Poly {
	low := degreeOf(m)
	for i := degreeOf(a); i >= low; i-- {
		times := byte(p) - a[i]
		for j := range low + 1 {
			a[i-low+j] = (a[i-low+j] + times*m[j]) % byte(p)
		}
	}
	return a
}

// productBy is for residues a and b modulo a monic m.
func productBy(p int64, a, b, m impl.Poly) impl.Poly {
	var product impl.Poly
	for i := degreeOf(a); i >= 0; i-- {
		copy(product[1:], product[:63])
		product[0] = 0
		for j := range b {
			product[j] = (product[j] + a[i]*b[j]) % byte(p)
		}
		product = restBy(p, product, m)
	}
	return product
}

// product fails the test if the product is too great.
func product(t *testing.T, p int64, list ...impl.Poly) impl.Poly {
	t.Helper()
	all := plain{1}
	for _, a := range list {
		all = all.times(p, plainOf(a))
	}
	return all.poly(t)
}

// next returns the polynomial with the number that follows.
func next(p int64, a impl.Poly) impl.Poly {
	for i := range a {
		if int64(a[i])+1 < p {
			a[i]++
			return a
		}
		a[i] = 0
	}
	return a
}

// nextMonic returns the monic polynomial that follows m.
func nextMonic(p int64, m impl.Poly) impl.Poly {
	n := degreeOf(m)
	m = next(p, m)
	if m[n] != 1 || m[n+1] != 0 {
		return monomial(n + 1)
	}
	return m
}

// residues returns all residues modulo m in order.
func residues(p int64, m impl.Poly) []impl.Poly {
	list := []impl.Poly{{}}
	for a := (impl.Poly{1}); degreeOf(a) < degreeOf(m); a = next(p, a) {
		list = append(list, a)
	}
	return list
}

// moduli returns all monic polynomials of degrees in 1..most whose norm is at most limit.
func moduli(p int64, most int, limit int64) []impl.Poly {
	var list []impl.Poly
	for m := monomial(1); degreeOf(m) <= most && normOf(p, m) <= limit; m = nextMonic(p, m) {
		list = append(list, m)
	}
	return list
}

// leastDivisor returns the least irreducible polynomial that divides a monic a of a degree of at
// least 1.
func leastDivisor(p int64, a impl.Poly) impl.Poly {
	for m := monomial(1); 2*degreeOf(m) <= degreeOf(a); m = nextMonic(p, m) {
		if restBy(p, a, m) == (impl.Poly{}) {
			return m
		}
	}
	return a
}

// isPrimePoly reports whether m is irreducible.
func isPrimePoly(p int64, m impl.Poly) bool {
	n := degreeOf(m)
	return n > 0 && m[n] == 1 && leastDivisor(p, m) == m
}

// factorsByTrying is for a other than 0.
func factorsByTrying(t *testing.T, p int64, a impl.Poly) []impl.Factor {
	t.Helper()
	left := plainOf(a)
	left = left.times(p, plain{inverseOf(p, left[len(left)-1])})
	var list []impl.Factor
	for len(left) > 1 {
		prime := leastDivisor(p, left.poly(t))
		if last := len(list) - 1; last >= 0 && list[last].Prime == prime {
			list[last].Power++
		} else {
			list = append(list, impl.Factor{Prime: prime, Power: 1})
		}
		left, _ = left.divided(p, plainOf(prime))
	}
	return list
}

// irreducible returns an irreducible polynomial of the degree n, the first one behind a sample.
func (s *sampler) irreducible(p int64, n int) impl.Poly {
	m := s.monic(p, n)
	for !isPrimePoly(p, m) {
		m = nextMonic(p, m)
		if degreeOf(m) > n {
			m = monomial(n)
		}
	}
	return m
}

// isCoprime reports whether a, which may be 0, and b have no common divisor.
func isCoprime(p int64, a, b impl.Poly) bool {
	x, y := plainOf(a), plainOf(b)
	for len(x) > 0 {
		_, rest := y.divided(p, x)
		x, y = rest, x
	}
	return len(y) == 1
}

// powersOf returns the powers 0, 1, .. of a residue, up to the last one before a power comes
// again.
func powersOf(p int64, a, m impl.Poly) []impl.Poly {
	var list []impl.Poly
	seen := map[impl.Poly]bool{}
	for power := (impl.Poly{1}); !seen[power]; power = productBy(p, power, a, m) {
		seen[power] = true
		list = append(list, power)
	}
	return list
}

// beyond returns a polynomial of a greater degree with the same rest as a residue a.
func (s *sampler) beyond(t *testing.T, p int64, a, m impl.Poly) impl.Poly {
	t.Helper()
	times := s.poly(p, int(s.below(int64(63-degreeOf(m)))))
	return plainOf(a).plus(p, 1, plainOf(m).times(p, plainOf(times))).poly(t)
}

// symbolByPowers goes by the definition: powers for the irreducible factors of m.
func symbolByPowers(t *testing.T, p int64, a, m impl.Poly) int64 {
	t.Helper()
	symbol := int64(1)
	for _, f := range factorsByTrying(t, p, m) {
		k := (normOf(p, f.Prime) - 1) / (p - 1)
		power := greatPower(p, plainOf(a), k, plainOf(f.Prime))
		if len(power) > 1 {
			t.Fatalf("%d: the power of %v modulo %v is no number", p, a, f.Prime)
		}
		for range f.Power {
			symbol = symbol * power.at(0) % p
		}
	}
	return symbol
}
