package tests

import (
	"testing"

	"loop.example/g01245/impl"
)

// normLimits bound the moduli for which everything is tried.
var normLimits = map[int64]int64{2: 32, 3: 27, 5: 25, 7: 49}

// mixedModuli returns moduli of all degrees: irreducible ones, products and powers.
func mixedModuli(t *testing.T, s *sampler, p int64) []impl.Poly {
	t.Helper()
	var list []impl.Poly
	for d := 1; d <= impl.MaxModulus; d++ {
		list = append(list, s.irreducible(p, d), s.monic(p, d), monomial(d))
	}
	prime, other, x := s.irreducible(p, 2), s.irreducible(p, 3), s.monic(p, 1)
	for _, factors := range [][]impl.Poly{
		{x, x}, {x, prime}, {x, x, x}, {prime, prime}, {x, other}, {x, x, prime}, {x, prime, prime},
		{prime, other}, {x, x, x, x, x}, {x, x, other}, {monomial(1), {1, 1}}, {monomial(1), {1, 1}, prime},
		{monomial(1), {1, 1}, other},
	} {
		list = append(list, product(t, p, factors...))
	}
	return list
}

// someResidues returns all of few residues.
func someResidues(s *sampler, p int64, m impl.Poly, count int) []impl.Poly {
	all := residues(p, m)
	if len(all) <= count {
		return all
	}
	list := []impl.Poly{{}, {1}, full(p, degreeOf(m)-1)}
	for range count {
		list = append(list, all[s.below(int64(len(all)))])
	}
	return list
}

func TestActOnResidue(t *testing.T) {
	s := &sampler{state: 80}
	for _, p := range primes {
		for _, m := range mixedModuli(t, s, p) {
			k := carlitzOf(p, m)
			for _, x := range someResidues(s, p, m, 12) {
				for _, a := range []impl.Poly{
					{}, {1}, {byte(p - 1)}, monomial(1), s.upTo(p, 6), s.upTo(p, 63), full(p, 63), monomial(63), m,
				} {
					want := k.act(a, x)
					expect(t, "ActOnResidue", results(impl.ActOnResidue(p, a, x, m)), want)
					expect(t, "ActOnResidue", results(impl.ActOnResidue(p, a, s.beyond(t, p, x, m), m)), want)
				}
			}
		}
	}
}

// The tests' own binomials say the same as the action of T step by step.
func TestBinomialsActOnResidues(t *testing.T) {
	s := &sampler{state: 81}
	for _, p := range primes {
		for _, m := range mixedModuli(t, s, p) {
			for _, a := range []impl.Poly{monomial(1), monomial(2), s.poly(p, 2), s.poly(p, 3)} {
				list := polysOf(t, binomialsBy(p, a))
				for _, x := range someResidues(s, p, m, 8) {
					want := valueOfList(p, list, x, m)
					expect(t, "ActOnResidue", results(impl.ActOnResidue(p, a, x, m)), want)
				}
			}
		}
	}
}

func TestActionsOnResiduesByHand(t *testing.T) {
	for _, p := range primes {
		// T takes 1 to T + 1, and for the modulus T each number to itself.
		expect(t, "ActOnResidue", results(impl.ActOnResidue(p, poly("10"), poly("1"), monomial(5))), poly("11"))
		for c := range byte(p) {
			expect(t, "ActOnResidue", results(impl.ActOnResidue(p, monomial(63), impl.Poly{c}, poly("10"))), impl.Poly{c})
		}
	}
	// T takes T + 1 to T^2 + T + T^p + 1.
	expect(t, "ActOnResidue", results(impl.ActOnResidue(2, poly("100"), poly("1"), monomial(5))), poly("11"))
	expect(t, "ActOnResidue", results(impl.ActOnResidue(3, poly("100"), poly("1"), monomial(5))), poly("1111"))
	expect(t, "ActOnResidue", results(impl.ActOnResidue(5, poly("100"), poly("1"), monomial(5))), poly("111"))
	expect(t, "ActOnResidue", results(impl.ActOnResidue(2, poly("10"), poly("1"), poly("111"))), poly("11"))
	expect(t, "ActOnResidue", results(impl.ActOnResidue(2, poly("100"), poly("1"), poly("111"))), poly("11"))
}

func TestTorsionAnnihilatorsAndGenerators(t *testing.T) {
	s := &sampler{state: 82}
	for _, p := range primes {
		for _, m := range moduli(p, impl.MaxModulus, normLimits[p]) {
			k := carlitzOf(p, m)
			for _, a := range append(smallPolys(p, 1), s.upTo(p, 6), s.upTo(p, 63), full(p, 63), m) {
				expect(t, "TorsionNumber", results(impl.TorsionNumber(p, a, m)), k.torsionNumber(t, a))
			}
			for _, x := range residues(p, m) {
				want := k.annihilator(x)
				expect(t, "AnnihilatorOf", results(impl.AnnihilatorOf(p, x, m)), want)
				expect(t, "AnnihilatorOf", results(impl.AnnihilatorOf(p, s.beyond(t, p, x, m), m)), want)
			}
			exponent := k.exponent()
			expect(t, "ExponentOf", results(impl.ExponentOf(p, m)), exponent)
			expect(t, "TorsionNumber", results(impl.TorsionNumber(p, exponent, m)), int64(degreeOf(m)))
			generator, found := k.generator()
			if !found {
				expectCode(t, "CarlitzGenerator", results(impl.CarlitzGenerator(p, m)), impl.ErrState)
				continue
			}
			expect(t, "CarlitzGenerator", results(impl.CarlitzGenerator(p, m)), generator)
		}
	}
}

// isLeast reports whether a is the monic polynomial of least degree that takes a list of residues
// to 0: those that do so are its multiples, and it has to be none of another one.
func (k *carlitz) isLeast(t *testing.T, a impl.Poly, list []impl.Poly) bool {
	t.Helper()
	n := degreeOf(a)
	if n < 0 || a[n] != 1 || !k.leadsAllToZero(a, list) {
		return false
	}
	for _, f := range factorsByTrying(t, k.p, a) {
		quotient, _ := plainOf(a).divided(k.p, plainOf(f.Prime))
		if k.leadsAllToZero(quotient.poly(t), list) {
			return false
		}
	}
	return true
}

// Beyond what can be tried, annihilators, exponents and generators are told by the divisors of
// what the program says.
func TestGreaterModuli(t *testing.T) {
	s := &sampler{state: 83}
	for _, p := range primes {
		for _, m := range mixedModuli(t, s, p) {
			k := carlitzOf(p, m)
			exponent, code := impl.ExponentOf(p, m)
			if code != impl.ErrNone || !k.isLeast(t, exponent, k.basis()) {
				t.Errorf("ExponentOf(%d, %v) = %v, %d", p, m, exponent, code)
			}
			for _, x := range someResidues(s, p, m, 10) {
				annihilator, code := impl.AnnihilatorOf(p, s.beyond(t, p, x, m), m)
				if code != impl.ErrNone || !k.isLeast(t, annihilator, []impl.Poly{x}) {
					t.Errorf("AnnihilatorOf(%d, %v, %v) = %v, %d", p, x, m, annihilator, code)
				}
			}
		}
	}
}

// The divisors of the exponent have some torsion, and other polynomials have that of a divisor.
func TestTorsionNumbersOfGreaterModuli(t *testing.T) {
	s := &sampler{state: 86}
	for _, p := range primes {
		for _, m := range append(mixedModuli(t, s, p), greatModuli(s, p)...) {
			if normOf(p, m) > 3125 {
				continue
			}
			k := carlitzOf(p, m)
			list := []impl.Poly{s.upTo(p, 5), s.upTo(p, 63)}
			for _, f := range factorsByTrying(t, p, must[impl.Poly](t)(impl.ExponentOf(p, m))) {
				list = append(list, f.Prime, product(t, p, f.Prime, f.Prime), product(t, p, f.Prime, s.poly(p, 3)))
			}
			for _, a := range list {
				expect(t, "TorsionNumber", results(impl.TorsionNumber(p, a, m)), k.torsionNumber(t, a))
			}
		}
	}
}

// isGenerator reports whether x, T x, .. are no sums of each other: the residues below are all
// taken to something other than 0.
func (k *carlitz) isGenerator(x impl.Poly) bool {
	var rows []impl.Poly
	for range degreeOf(k.m) {
		rest := reducedBy(k.p, x, rows)
		if rest == (impl.Poly{}) {
			return false
		}
		rows = append(rows, rest)
		x = k.turned(x)
	}
	return true
}

// reducedBy clears the leading places of the rows, each of which is already reduced by those
// before it.
func reducedBy(p int64, x impl.Poly, rows []impl.Poly) impl.Poly {
	for _, row := range rows {
		n := degreeOf(row)
		times := (p - int64(x[n])) * inverseOf(p, int64(row[n])) % p
		x = plusTimes(p, x, byte(times), row)
	}
	return x
}

func TestCarlitzGenerators(t *testing.T) {
	s := &sampler{state: 84}
	for _, p := range primes {
		found, missing := 0, 0
		for _, m := range append(moduli(p, impl.MaxModulus, 400), mixedModuli(t, s, p)...) {
			k := carlitzOf(p, m)
			want := impl.Poly{1}
			for degreeOf(want) < degreeOf(m) && !k.isGenerator(want) {
				want = next(p, want)
			}
			if degreeOf(want) == degreeOf(m) {
				expectCode(t, "CarlitzGenerator", results(impl.CarlitzGenerator(p, m)), impl.ErrState)
				missing++
			} else {
				expect(t, "CarlitzGenerator", results(impl.CarlitzGenerator(p, m)), want)
				found++
			}
		}
		if found < 10 || missing < 3 {
			t.Errorf("%d: %d moduli with and %d without a generator are no good sample", p, found, missing)
		}
	}
}

func TestModulesByHand(t *testing.T) {
	for _, p := range primes {
		// For T, it takes each number to itself.
		x := poly("10")
		minus := impl.Poly{byte(p - 1), 1}
		expect(t, "AnnihilatorOf 0", results(impl.AnnihilatorOf(p, impl.Poly{}, x)), impl.Poly{1})
		expect(t, "AnnihilatorOf 1", results(impl.AnnihilatorOf(p, impl.Poly{1}, x)), minus)
		expect(t, "ExponentOf", results(impl.ExponentOf(p, x)), minus)
		expect(t, "CarlitzGenerator", results(impl.CarlitzGenerator(p, x)), impl.Poly{1})
		expect(t, "TorsionNumber", results(impl.TorsionNumber(p, minus, x)), int64(1))
		expect(t, "TorsionNumber", results(impl.TorsionNumber(p, x, x)), int64(0))
		// For T^2, it takes T to 0, and 1 to T + 1, which it takes to itself.
		square := poly("100")
		expect(t, "AnnihilatorOf T", results(impl.AnnihilatorOf(p, x, square)), x)
		expect(t, "AnnihilatorOf T + 1", results(impl.AnnihilatorOf(p, poly("11"), square)), minus)
		expect(t, "ExponentOf", results(impl.ExponentOf(p, square)), impl.Poly{0, byte(p - 1), 1})
		expect(t, "CarlitzGenerator", results(impl.CarlitzGenerator(p, square)), impl.Poly{1})
		for n := range impl.MaxModulus {
			m := monomial(n + 1)
			expect(t, "TorsionNumber of 0", results(impl.TorsionNumber(p, impl.Poly{}, m)), int64(n+1))
			expect(t, "TorsionNumber of 1", results(impl.TorsionNumber(p, impl.Poly{1}, m)), int64(0))
		}
	}
	expect(t, "AnnihilatorOf", results(impl.AnnihilatorOf(2, poly("1"), poly("111"))), poly("110"))
	expect(t, "ExponentOf", results(impl.ExponentOf(2, poly("111"))), poly("110"))
	expect(t, "ExponentOf", results(impl.ExponentOf(2, poly("1011"))), poly("1010"))
	// For T the exponent is T + 1, and for T^2 + T + 1 it is T^2 + T.
	expect(t, "ExponentOf", results(impl.ExponentOf(2, poly("1110"))), poly("110"))
	expectCode(t, "CarlitzGenerator", results(impl.CarlitzGenerator(2, poly("1110"))), impl.ErrState)
}

// deepModuli returns irreducible polynomials of the degrees 1 to 3, all that are small.
func deepModuli(s *sampler, p int64) []impl.Poly {
	list := []impl.Poly{s.irreducible(p, 2), s.irreducible(p, 3), s.irreducible(p, 3)}
	for _, m := range moduli(p, 3, normLimits[p]) {
		if isPrimePoly(p, m) {
			list = append(list, m)
		}
	}
	return list
}

func TestDeepRest(t *testing.T) {
	s := &sampler{state: 85}
	for _, p := range primes {
		others := 0
		for _, m := range deepModuli(s, p) {
			for _, x := range someResidues(s, p, m, 30) {
				want := deepBy(t, p, x, m)
				expect(t, "DeepRest", results(impl.DeepRest(p, x, m)), want)
				for range 3 {
					great := s.beyond(t, p, x, m)
					expect(t, "DeepRest", results(impl.DeepRest(p, great, m)), want)
				}
				if want != (impl.Poly{}) {
					others++
				}
			}
		}
		if others == 0 {
			t.Errorf("%d: all deep rests are 0", p)
		}
	}
}

func TestDeepRestsByHand(t *testing.T) {
	for _, p := range primes {
		expect(t, "DeepRest of 0", results(impl.DeepRest(p, impl.Poly{}, poly("10"))), impl.Poly{})
		// T - 1 takes 1 to T + 1 - 1.
		expect(t, "DeepRest of 1", results(impl.DeepRest(p, impl.Poly{1}, poly("10"))), impl.Poly{1})
		for c := byte(1); c < byte(p); c++ {
			expect(t, "DeepRest of a number", results(impl.DeepRest(p, impl.Poly{c, 1}, poly("10"))), impl.Poly{c})
		}
	}
	// For 2, T takes T to 0, and T + 1 to itself, so that T^2 + T takes all numbers and T to 0.
	for _, x := range polys("0", "1", "10", "11") {
		expect(t, "DeepRest", results(impl.DeepRest(2, x, poly("111"))), impl.Poly{})
		expect(t, "DeepRest", results(impl.DeepRest(2, x, poly("1011"))), impl.Poly{})
	}
	expect(t, "DeepRest", results(impl.DeepRest(2, poly("100"), poly("1011"))), poly("1"))
	// For 3, T^2 takes 1 to T^3 + T^2 + T + 1.
	expect(t, "DeepRest", results(impl.DeepRest(3, poly("1"), poly("101"))), poly("11"))
}
