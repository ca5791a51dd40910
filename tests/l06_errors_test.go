package tests

import (
	"slices"
	"testing"

	"loop.example/g01245/impl"
)

// drinfeldCall is a function of chapter 6 with everything but its modules and its polynomials
// given.
type drinfeldCall struct {
	name    string
	modules int
	polys   int
	run     func(m []impl.Drinfeld, a []impl.Poly) []any
}

// callsWithDrinfelds has lists that are too short or too long, as callsOfChapter1 has numbers out of
// their ranges.
func callsWithDrinfelds() []drinfeldCall {
	type modules = []impl.Drinfeld
	type polys = []impl.Poly
	return []drinfeldCall{
		{"DrinfeldAction", 1, 1, func(m modules, a polys) []any { return results(impl.DrinfeldAction(m[0], a[0])) }},
		{"DrinfeldValue", 1, 2, func(m modules, a polys) []any { return results(impl.DrinfeldValue(m[0], a[0], a[1])) }},
		{"InvariantOf", 1, 0, func(m modules, a polys) []any { return results(impl.InvariantOf(m[0])) }},
		{"TwistOf", 1, 1, func(m modules, a polys) []any { return results(impl.TwistOf(m[0], a[0])) }},
		{"AreIsomorphic", 2, 0, func(m modules, a polys) []any { return results(impl.AreIsomorphic(m[0], m[1])) }},
		{"IsIsogeny", 2, 0, func(m modules, a polys) []any { return results(impl.IsIsogeny(m[0], m[1], a)) }},
		{"IsIsogeny", 2, 1, func(m modules, a polys) []any { return results(impl.IsIsogeny(m[0], m[1], a)) }},
		{"IsIsogeny", 2, 6, func(m modules, a polys) []any { return results(impl.IsIsogeny(m[0], m[1], a)) }},
		{"IsIsogeny", 2, 7, func(m modules, a polys) []any { return results(impl.IsIsogeny(m[0], m[1], a)) }},
		{"NormOf", 1, 1, func(m modules, a polys) []any { return results(impl.NormOf(m[0], a[0])) }},
		{"FrobeniusOf", 1, 0, func(m modules, a polys) []any { return results(impl.FrobeniusOf(m[0])) }},
		{"IsSupersingular", 1, 0, func(m modules, a polys) []any { return results(impl.IsSupersingular(m[0])) }},
		{"OrderPolynomial", 1, 0, func(m modules, a polys) []any { return results(impl.OrderPolynomial(m[0])) }},
	}
}

// callsOfChapter6 take polynomials without a module.
func callsOfChapter6() []call {
	return []call{
		{"AllDrinfeld", 1, func(p int64, a []impl.Poly) []any { return results(impl.AllDrinfeld(p, a[0])) }},
		{"CountByTrace", 1, func(p int64, a []impl.Poly) []any { return results(impl.CountByTrace(p, a[0])) }},
	}
}

// noDrinfelds returns what is no module because of its prime, its modulus, its G or its D alone,
// which the rest is taken from.
func noDrinfelds(n rankTwo) []impl.Drinfeld {
	list := []impl.Drinfeld{{}}
	for _, p := range notPrimes {
		wrong := n.told()
		wrong.Prime = p
		few := impl.Drinfeld{Prime: p, Mod: monomial(1), D: impl.Poly{1}}
		list = append(list, wrong, few)
	}
	for _, m := range noFields(n.p) {
		wrong, few := n.told(), impl.Drinfeld{Prime: n.p, Mod: m, D: impl.Poly{1}}
		wrong.Mod = m
		list = append(list, wrong, few)
	}
	for _, x := range noResidues(n.tower) {
		wrong, other := n.told(), n.told()
		wrong.G, other.D = x, x
		list = append(list, wrong, other)
	}
	wrong := n.told()
	wrong.D = impl.Poly{}
	return append(list, wrong)
}

// polysOutOfRange are 0, of a degree that is greater than that of all fields and actions, and none.
func polysOutOfRange(p int64) []impl.Poly {
	return []impl.Poly{{}, monomial(6), full(p, 63)}
}

// The polynomials are residues, or out of their ranges, or none: all that comes later, or has the
// same code.
func TestWrongDrinfeldsComeFirst(t *testing.T) {
	s := &sampler{state: 170}
	for _, p := range primes {
		for _, k := range towers(s, p) {
			n := s.rankTwo(k)
			for _, wrong := range noDrinfelds(n) {
				for _, c := range callsWithDrinfelds() {
					checkWrongDrinfeld(t, n, wrong, c)
				}
			}
		}
	}
}

// checkWrongDrinfeld puts what is no module to all places. Where there are two of them, the other
// one has the same field or another one, or is none either.
func checkWrongDrinfeld(t *testing.T, n rankTwo, wrong impl.Drinfeld, c drinfeldCall) {
	t.Helper()
	for place := range c.modules {
		for _, other := range []impl.Drinfeld{n.told(), stranger(n), wrong} {
			for _, x := range append(polysOutOfRange(n.p), impl.Poly{1}, impl.Poly{255}) {
				modules := slices.Repeat([]impl.Drinfeld{other}, c.modules)
				modules[place] = wrong
				got := c.run(modules, slices.Repeat([]impl.Poly{x}, c.polys))
				expectCode(t, c.name, got, impl.ErrInvalid)
			}
		}
	}
}

// stranger returns a module with another p.
func stranger(n rankTwo) impl.Drinfeld {
	p := int64(2)
	if n.p == 2 {
		p = 7
	}
	return impl.Drinfeld{Prime: p, Mod: impl.Poly{1, 1}, G: impl.Poly{1}, D: impl.Poly{1}}
}

// A polynomial that is none comes before another one that is out of its range, and before modules
// with different fields.
func TestWrongPolysWithDrinfeldsComeFirst(t *testing.T) {
	s := &sampler{state: 171}
	for _, p := range primes {
		for _, k := range towers(s, p) {
			n := s.rankTwo(k)
			for _, c := range callsWithDrinfelds() {
				for place := range c.polys {
					for _, at := range []int{0, 1, k.degree(), 62, 63} {
						checkWrongPoly(t, n, c, place, at)
					}
				}
			}
		}
	}
}

func checkWrongPoly(t *testing.T, n rankTwo, c drinfeldCall, place, at int) {
	t.Helper()
	for _, second := range []impl.Drinfeld{n.told(), stranger(n)} {
		modules := []impl.Drinfeld{n.told(), second}[:c.modules]
		for _, other := range append(polysOutOfRange(n.p), impl.Poly{1}) {
			for _, wrong := range []byte{byte(n.p), byte(n.p + 1), 255} {
				list := slices.Repeat([]impl.Poly{other}, c.polys)
				list[place][at] = wrong
				expectCode(t, c.name, c.run(modules, list), impl.ErrInvalid)
			}
		}
	}
}

// The list is asked for the p of the first module alone.
func TestListsForTheFirstPrime(t *testing.T) {
	two := impl.Drinfeld{Prime: 2, Mod: poly("11"), D: poly("1")}
	seven := impl.Drinfeld{Prime: 7, Mod: poly("11"), D: poly("1")}
	for _, u := range [][]impl.Poly{{{6}}, {{1}, {2}}, {{1}, {}, {6}, {}, {}, {}, {}}} {
		expectCode(t, "IsIsogeny", results(impl.IsIsogeny(seven, two, u)), impl.ErrRange)
		expectCode(t, "IsIsogeny", results(impl.IsIsogeny(two, seven, u)), impl.ErrInvalid)
	}
}

// Modules over different fields are told as such, also if they have all else in common.
func TestDifferentFields(t *testing.T) {
	s := &sampler{state: 172}
	for _, p := range primes {
		var list []impl.Drinfeld
		for _, q := range primes {
			list = append(list, impl.Drinfeld{Prime: q, Mod: poly("11"), D: poly("1")})
		}
		for d := 1; d <= 4; d++ {
			for range 3 {
				list = append(list, impl.Drinfeld{Prime: p, Mod: s.irreducible(p, d), D: poly("1")})
			}
		}
		for _, m := range list {
			for _, n := range list {
				want := int64(impl.ErrNone)
				if m.Prime != n.Prime || m.Mod != n.Mod {
					want = impl.ErrRange
				}
				expectCode(t, "AreIsomorphic", results(impl.AreIsomorphic(m, n)), want)
				expectCode(t, "IsIsogeny", results(impl.IsIsogeny(m, n, []impl.Poly{{1}})), want)
				expectCode(t, "IsIsogeny", results(impl.IsIsogeny(m, n, nil)), impl.ErrRange)
			}
		}
	}
}

func TestDegreesOfDrinfeldActionsOutOfRange(t *testing.T) {
	s := &sampler{state: 173}
	for _, p := range primes {
		for _, k := range towers(s, p) {
			n := s.rankTwo(k).told()
			for d := 6; d <= impl.MaxDegree; d++ {
				for _, a := range []impl.Poly{monomial(d), full(p, d), s.poly(p, d)} {
					expectCode(t, "DrinfeldAction", results(impl.DrinfeldAction(n, a)), impl.ErrRange)
				}
			}
		}
	}
}

// What is no residue has a rest, but it does not count here.
func TestResiduesOfDrinfeldsOutOfRange(t *testing.T) {
	s := &sampler{state: 174}
	for _, p := range primes {
		for _, k := range towers(s, p) {
			n := s.rankTwo(k).told()
			expectCode(t, "TwistOf", results(impl.TwistOf(n, impl.Poly{})), impl.ErrRange)
			for d := k.degree(); d <= impl.MaxDegree; d++ {
				for _, x := range []impl.Poly{monomial(d), full(p, d), s.poly(p, d), plusTimes(p, monomial(d), 1, impl.Poly{1})} {
					expectCode(t, "TwistOf", results(impl.TwistOf(n, x)), impl.ErrRange)
					expectCode(t, "NormOf", results(impl.NormOf(n, x)), impl.ErrRange)
					for place := range 6 {
						u := slices.Repeat([]impl.Poly{{1}}, 6)
						u[place] = x
						expectCode(t, "IsIsogeny", results(impl.IsIsogeny(n, n, u)), impl.ErrRange)
						expectCode(t, "IsIsogeny", results(impl.IsIsogeny(n, n, u[place:place+1])), impl.ErrRange)
					}
				}
			}
			expectCode(t, "TwistOf", results(impl.TwistOf(n, k.m)), impl.ErrRange)
			expectCode(t, "NormOf", results(impl.NormOf(n, k.m)), impl.ErrRange)
		}
	}
}

// What is behind the sixth residue does not matter even if it is 0.
func TestListsOfIsogeniesOutOfRange(t *testing.T) {
	s := &sampler{state: 175}
	for _, p := range primes {
		for _, k := range towers(s, p) {
			n := s.rankTwo(k).told()
			for _, count := range []int{0, 7, 8, 12, 100} {
				u := make([]impl.Poly, count)
				expectCode(t, "IsIsogeny", results(impl.IsIsogeny(n, n, u)), impl.ErrRange)
				if count > 0 {
					u[0] = impl.Poly{1}
					expectCode(t, "IsIsogeny", results(impl.IsIsogeny(n, n, u)), impl.ErrRange)
				}
			}
			expectCode(t, "IsIsogeny", results(impl.IsIsogeny(n, n, nil)), impl.ErrRange)
			for count := 1; count <= 6; count++ {
				expectCode(t, "IsIsogeny", results(impl.IsIsogeny(n, n, make([]impl.Poly, count))), impl.ErrNone)
			}
		}
	}
}

// What is no polynomial has been tried with all functions of polynomials.
func TestWhatHasNoListOfDrinfelds(t *testing.T) {
	s := &sampler{state: 176}
	for _, p := range primes {
		list := []impl.Poly{s.irreducible(p, 5), s.irreducible(p, 6)}
		for _, m := range noFields(p) {
			if impl.IsPoly(p, m) {
				list = append(list, m)
			}
		}
		for _, m := range moduli(p, 4, 2401) {
			switch few := normOf(p, m) <= 16; {
			case !few || !isPrimePoly(p, m):
				list = append(list, m)
			default:
				expectCode(t, "AllDrinfeld", results(impl.AllDrinfeld(p, m)), impl.ErrNone)
				expectCode(t, "CountByTrace", results(impl.CountByTrace(p, m)), impl.ErrNone)
			}
		}
		for _, m := range list {
			expectCode(t, "AllDrinfeld", results(impl.AllDrinfeld(p, m)), impl.ErrRange)
			expectCode(t, "CountByTrace", results(impl.CountByTrace(p, m)), impl.ErrRange)
		}
	}
}
