package tests

import (
	"testing"

	"loop.example/g01245/impl"
)

func TestConstantsOfChapter2(t *testing.T) {
	if impl.MaxModulus != 5 || impl.MaxSplit != 12 {
		t.Errorf("limits %d, %d", impl.MaxModulus, impl.MaxSplit)
	}
}

// splitSamples returns polynomials of all degrees in 1..MaxSplit, among them irreducible ones,
// powers, products of two of one degree, and polynomials that are not monic.
func splitSamples(t *testing.T, s *sampler, p int64) []impl.Poly {
	t.Helper()
	var list []impl.Poly
	for n := 1; n <= impl.MaxSplit; n++ {
		list = append(list, s.poly(p, n), s.monic(p, n), s.irreducible(p, n), monomial(n), full(p, n))
		list = append(list, product(t, p, impl.Poly{byte(p - 1)}, s.irreducible(p, n)))
		prime := s.irreducible(p, n)
		power := prime
		for degreeOf(power)+n <= impl.MaxSplit {
			other := s.irreducible(p, n)
			list = append(list, product(t, p, power, other))
			power = product(t, p, power, prime)
			list = append(list, power)
		}
		for k := 1; k < n && k+n <= impl.MaxSplit; k++ {
			list = append(list, product(t, p, prime, s.irreducible(p, k)))
		}
	}
	return list
}

func TestFactorsAndNumbersOfThem(t *testing.T) {
	s := &sampler{state: 21}
	for _, p := range primes {
		for _, a := range splitSamples(t, s, p) {
			checkSplitting(t, p, a)
		}
	}
}

func checkSplitting(t *testing.T, p int64, a impl.Poly) {
	t.Helper()
	want := factorsByTrying(t, p, a)
	expect(t, "FactorsOf", results(impl.FactorsOf(p, a)), want)
	moebius, euler := int64(1), int64(1)
	for _, f := range want {
		norm := normOf(p, f.Prime)
		euler *= norm - 1
		for range f.Power - 1 {
			moebius = 0
			euler *= norm
		}
		moebius = -moebius
	}
	expect(t, "MoebiusOf", results(impl.MoebiusOf(p, a)), moebius)
	expect(t, "EulerOf", results(impl.EulerOf(p, a)), euler)
	expect(t, "IsIrreducible", results(impl.IsIrreducible(p, a)), isPrimePoly(p, a))
}

// factor reads the digits of its prime.
func factor(digits string, power int64) impl.Factor {
	return impl.Factor{Prime: poly(digits), Power: power}
}

func TestFactorsByHand(t *testing.T) {
	want := []impl.Factor{factor("10", 1), factor("11", 1)}
	expect(t, "FactorsOf", results(impl.FactorsOf(2, poly("110"))), want)
	want = []impl.Factor{factor("12", 1), factor("13", 1)}
	expect(t, "FactorsOf", results(impl.FactorsOf(5, poly("101"))), want)
	// 2 T^4 + 2 T^2 is 2 T^2 (T^2 + 1), and T^2 + 1 is irreducible for 3.
	want = []impl.Factor{factor("10", 2), factor("101", 1)}
	expect(t, "FactorsOf", results(impl.FactorsOf(3, poly("20200"))), want)
	for _, p := range primes {
		want = []impl.Factor{factor("10", 12)}
		expect(t, "FactorsOf T^12", results(impl.FactorsOf(p, monomial(12))), want)
	}
	// T^7 - T has all numbers as roots.
	want = nil
	for c := range byte(7) {
		want = append(want, impl.Factor{Prime: impl.Poly{c, 1}, Power: 1})
	}
	expect(t, "FactorsOf T^7 - T", results(impl.FactorsOf(7, poly("10000060"))), want)
}

func TestMoebiusAndEulerByHand(t *testing.T) {
	expect(t, "MoebiusOf", results(impl.MoebiusOf(2, poly("110"))), int64(1))
	expect(t, "MoebiusOf", results(impl.MoebiusOf(2, poly("100"))), int64(0))
	expect(t, "MoebiusOf", results(impl.MoebiusOf(3, poly("20"))), int64(-1))
	expect(t, "EulerOf", results(impl.EulerOf(2, poly("1011"))), int64(7))
	expect(t, "EulerOf", results(impl.EulerOf(2, poly("10"))), int64(1))
	expect(t, "EulerOf", results(impl.EulerOf(7, monomial(12))), int64(11863960458))
	expect(t, "EulerOf", results(impl.EulerOf(5, poly("200"))), int64(20))
}

func TestFactorsOfNumbers(t *testing.T) {
	for _, p := range primes {
		for c := byte(1); c < byte(p); c++ {
			list, code := impl.FactorsOf(p, impl.Poly{c})
			if len(list) != 0 || code != impl.ErrNone {
				t.Errorf("FactorsOf(%d, %d) = %v, %d", p, c, list, code)
			}
			expect(t, "MoebiusOf a number", results(impl.MoebiusOf(p, impl.Poly{c})), int64(1))
		}
	}
}

// The Euler number tells how many units there are.
func TestEulerNumbersCountUnits(t *testing.T) {
	for _, p := range primes {
		for _, m := range moduli(p, 4, 49) {
			units := int64(0)
			for _, a := range residues(p, m) {
				if isCoprime(p, a, m) {
					units++
				}
			}
			expect(t, "EulerOf", results(impl.EulerOf(p, m)), units)
			minus := product(t, p, m, impl.Poly{byte(p - 1)})
			expect(t, "EulerOf less", results(impl.EulerOf(p, minus)), units)
		}
	}
}

func TestIsIrreducible(t *testing.T) {
	for _, p := range primes {
		for _, m := range moduli(p, 12, 729) {
			want := isPrimePoly(p, m)
			expect(t, "IsIrreducible", results(impl.IsIrreducible(p, m)), want)
			for c := byte(2); c < byte(p); c++ {
				times := product(t, p, m, impl.Poly{c})
				expect(t, "IsIrreducible, not monic", results(impl.IsIrreducible(p, times)), false)
			}
		}
		for c := range byte(p) {
			expect(t, "IsIrreducible, a number", results(impl.IsIrreducible(p, impl.Poly{c})), false)
		}
	}
	expect(t, "IsIrreducible", results(impl.IsIrreducible(2, poly("1000000001001"))), true)
	expect(t, "IsIrreducible", results(impl.IsIrreducible(2, poly("1000000000001"))), false)
}

func TestListsOfIrreducibles(t *testing.T) {
	greatest := map[int64]int{2: 8, 3: 5, 5: 3, 7: 3}
	for _, p := range primes {
		for n := 1; n <= greatest[p]; n++ {
			var want []impl.Poly
			for m := monomial(n); degreeOf(m) == n; m = nextMonic(p, m) {
				if isPrimePoly(p, m) {
					want = append(want, m)
				}
			}
			expect(t, "IrreduciblesOf", results(impl.IrreduciblesOf(p, int64(n))), want)
			expect(t, "CountIrreducibles", results(impl.CountIrreducibles(p, int64(n))), int64(len(want)))
		}
	}
	want := []impl.Poly{poly("1011"), poly("1101")}
	expect(t, "IrreduciblesOf", results(impl.IrreduciblesOf(2, 3)), want)
	expect(t, "IrreduciblesOf", results(impl.IrreduciblesOf(2, 1)), []impl.Poly{poly("10"), poly("11")})
}

// Moebius numbers of whole numbers tell the counts: n times that for n is the sum over d of the
// Moebius number of d, times p to the power n / d.
func TestCountsOfIrreducibles(t *testing.T) {
	for _, p := range primes {
		for n := int64(1); n <= 20; n++ {
			sum := int64(0)
			for d := int64(1); d <= n; d++ {
				if n%d == 0 {
					power := int64(1)
					for range n / d {
						power *= p
					}
					sum += moebiusOfNumber(d) * power
				}
			}
			expect(t, "CountIrreducibles", results(impl.CountIrreducibles(p, n)), sum/n)
		}
		expect(t, "CountIrreducibles", results(impl.CountIrreducibles(p, 1)), p)
	}
	expect(t, "CountIrreducibles", results(impl.CountIrreducibles(2, 3)), int64(2))
	expect(t, "CountIrreducibles", results(impl.CountIrreducibles(2, 20)), int64(52377))
}

func moebiusOfNumber(n int64) int64 {
	moebius := int64(1)
	for q := int64(2); n > 1; q++ {
		if n%q == 0 {
			n /= q
			moebius = -moebius
		}
		if n%q == 0 {
			return 0
		}
	}
	return moebius
}

// greatModuli returns moduli of the degree MaxModulus: a sample, an irreducible one, and powers.
func greatModuli(s *sampler, p int64) []impl.Poly {
	return []impl.Poly{
		s.monic(p, 5), s.irreducible(p, 5), monomial(5),
		plainPower(p, impl.Poly{byte(p - 1), 1}, 5), {0, 1, byte(p - 1), 0, 0, 1},
	}
}

func plainPower(p int64, a impl.Poly, k int) impl.Poly {
	power := plain{1}
	for range k {
		power = power.times(p, plainOf(a))
	}
	var b impl.Poly
	for i, c := range power {
		b[i] = byte(c)
	}
	return b
}

func TestInversesAndOrders(t *testing.T) {
	s := &sampler{state: 22}
	for _, p := range primes {
		for _, m := range moduli(p, 5, 49) {
			for _, a := range residues(p, m) {
				checkUnit(t, s, p, a, m)
			}
		}
		for _, m := range greatModuli(s, p) {
			for _, a := range []impl.Poly{{}, {1}, {byte(p - 1)}, monomial(1), {1, 1}, s.upTo(p, 4), s.poly(p, 4)} {
				checkUnit(t, s, p, a, m)
			}
		}
	}
	expect(t, "InverseModulo", results(impl.InverseModulo(2, poly("10"), poly("1011"))), poly("101"))
	expect(t, "InverseModulo", results(impl.InverseModulo(7, poly("3"), poly("10"))), poly("5"))
	expectCode(t, "InverseModulo", results(impl.InverseModulo(7, poly("30"), poly("10"))), impl.ErrNotFound)
	expect(t, "OrderModulo", results(impl.OrderModulo(2, poly("10"), poly("1011"))), int64(7))
	expect(t, "OrderModulo", results(impl.OrderModulo(2, poly("11"), poly("10"))), int64(1))
	expect(t, "OrderModulo", results(impl.OrderModulo(3, poly("11"), poly("100"))), int64(3))
	expectCode(t, "OrderModulo", results(impl.OrderModulo(3, poly("10"), poly("100"))), impl.ErrNotFound)
}

// checkUnit takes a residue, and another polynomial with this as its rest.
func checkUnit(t *testing.T, s *sampler, p int64, a, m impl.Poly) {
	t.Helper()
	great := s.beyond(t, p, a, m)
	if !isCoprime(p, a, m) {
		for _, x := range []impl.Poly{a, great} {
			expectCode(t, "InverseModulo", results(impl.InverseModulo(p, x, m)), impl.ErrNotFound)
			expectCode(t, "OrderModulo", results(impl.OrderModulo(p, x, m)), impl.ErrNotFound)
		}
		return
	}
	// The power before the first one that is 1 again is the inverse.
	powers := powersOf(p, a, m)
	order := int64(len(powers))
	for _, x := range []impl.Poly{a, great} {
		expect(t, "InverseModulo", results(impl.InverseModulo(p, x, m)), powers[order-1])
		expect(t, "OrderModulo", results(impl.OrderModulo(p, x, m)), order)
	}
}

func TestPrimitiveOf(t *testing.T) {
	s := &sampler{state: 23}
	for _, p := range primes {
		for _, m := range append(moduli(p, 5, 243), greatModuli(s, p)...) {
			if !isPrimePoly(p, m) {
				expectCode(t, "PrimitiveOf", results(impl.PrimitiveOf(p, m)), impl.ErrState)
				continue
			}
			want := impl.Poly{1}
			for int64(len(powersOf(p, want, m))) != normOf(p, m)-1 {
				want = next(p, want)
			}
			expect(t, "PrimitiveOf", results(impl.PrimitiveOf(p, m)), want)
		}
	}
	expect(t, "PrimitiveOf", results(impl.PrimitiveOf(2, poly("10"))), poly("1"))
	expect(t, "PrimitiveOf", results(impl.PrimitiveOf(2, poly("1011"))), poly("10"))
	expect(t, "PrimitiveOf", results(impl.PrimitiveOf(7, poly("14"))), poly("3"))
	// The order of T is 4 for T^2 + 1, and that of T + 1 is 8.
	expect(t, "PrimitiveOf", results(impl.PrimitiveOf(3, poly("101"))), poly("11"))
}

func TestLogarithmOf(t *testing.T) {
	s := &sampler{state: 24}
	for _, p := range primes {
		for _, m := range moduli(p, 4, 16) {
			for _, g := range residues(p, m) {
				checkLogarithms(t, s, p, g, m, residues(p, m))
			}
		}
		for _, m := range greatModuli(s, p) {
			for _, g := range []impl.Poly{{}, {1}, {byte(p - 1)}, {0, 1}, {1, 1}, s.poly(p, 4)} {
				powers := powersOf(p, g, m)
				list := []impl.Poly{{}, {1}, {0, 1}, s.poly(p, 4), powers[len(powers)-1], powers[len(powers)/2]}
				checkLogarithms(t, s, p, g, m, list)
			}
		}
	}
	expect(t, "LogarithmOf", results(impl.LogarithmOf(2, poly("11"), poly("10"), poly("1011"))), int64(3))
	// Powers of T modulo T^3 are 1, T, T^2, and then 0 for ever.
	for k, text := range []string{"1", "10", "100", "0"} {
		got := results(impl.LogarithmOf(5, poly(text), poly("10"), poly("1000")))
		expect(t, "LogarithmOf", got, int64(k))
	}
	got := results(impl.LogarithmOf(5, poly("200"), poly("10"), poly("1000")))
	expectCode(t, "LogarithmOf", got, impl.ErrNotFound)
	expect(t, "LogarithmOf 1 for 0", results(impl.LogarithmOf(7, poly("1"), poly("0"), poly("10"))), int64(0))
	expect(t, "LogarithmOf 0 for 0", results(impl.LogarithmOf(7, poly("0"), poly("0"), poly("10"))), int64(1))
	expectCode(t, "LogarithmOf 0 for 1", results(impl.LogarithmOf(7, poly("0"), poly("1"), poly("10"))), impl.ErrNotFound)
}

func checkLogarithms(t *testing.T, s *sampler, p int64, g, m impl.Poly, list []impl.Poly) {
	t.Helper()
	logarithms := map[impl.Poly]int64{}
	for k, power := range powersOf(p, g, m) {
		logarithms[power] = int64(k)
	}
	for _, a := range list {
		for _, got := range [][]any{
			results(impl.LogarithmOf(p, a, g, m)),
			results(impl.LogarithmOf(p, s.beyond(t, p, a, m), s.beyond(t, p, g, m), m)),
		} {
			if k, found := logarithms[a]; found {
				expect(t, "LogarithmOf", got, k)
			} else {
				expectCode(t, "LogarithmOf", got, impl.ErrNotFound)
			}
		}
	}
}

func TestSymbolOf(t *testing.T) {
	s := &sampler{state: 25}
	for _, p := range primes {
		for _, m := range moduli(p, 4, 27) {
			for _, a := range residues(p, m) {
				checkSymbol(t, p, a, m)
				checkSymbol(t, p, s.beyond(t, p, a, m), m)
			}
		}
		for n := 1; n <= impl.MaxSplit; n++ {
			prime := s.irreducible(p, (n+1)/2)
			for _, m := range []impl.Poly{s.monic(p, n), s.irreducible(p, n), monomial(n), product(t, p, prime, s.monic(p, n/2))} {
				checkSymbol(t, p, s.upTo(p, n), m)
				checkSymbol(t, p, s.poly(p, 63), m)
				checkSymbol(t, p, impl.Poly{byte(p - 1)}, m)
				expect(t, "SymbolOf 0", results(impl.SymbolOf(p, impl.Poly{}, m)), int64(0))
				expect(t, "SymbolOf 1", results(impl.SymbolOf(p, impl.Poly{1}, m)), int64(1))
				expect(t, "SymbolOf itself", results(impl.SymbolOf(p, m, m)), int64(0))
			}
			divided := product(t, p, prime, s.monic(p, n))
			got := results(impl.SymbolOf(p, divided, product(t, p, prime, s.monic(p, n/2))))
			expect(t, "SymbolOf with a common divisor", got, int64(0))
		}
	}
	expect(t, "SymbolOf", results(impl.SymbolOf(3, poly("10"), poly("11"))), int64(2))
	expect(t, "SymbolOf", results(impl.SymbolOf(3, poly("11"), poly("10"))), int64(1))
	expect(t, "SymbolOf", results(impl.SymbolOf(7, poly("3"), poly("100"))), int64(2))
}

func checkSymbol(t *testing.T, p int64, a, m impl.Poly) {
	t.Helper()
	expect(t, "SymbolOf", results(impl.SymbolOf(p, a, m)), symbolByPowers(t, p, a, m))
}

func TestRestForTwo(t *testing.T) {
	s := &sampler{state: 26}
	for _, p := range primes {
		for _, m := range moduli(p, 5, 16) {
			for _, n := range moduli(p, 5, 16) {
				checkRestForTwo(t, p, s.upTo(p, 63), m, s.upTo(p, 63), n)
				checkRestForTwo(t, p, s.upTo(p, degreeOf(m)-1), m, s.upTo(p, degreeOf(n)-1), n)
			}
		}
		for _, m := range greatModuli(s, p) {
			for _, n := range greatModuli(s, p) {
				checkRestForTwo(t, p, s.upTo(p, 63), m, s.upTo(p, 63), n)
				checkRestForTwo(t, p, impl.Poly{}, m, impl.Poly{1}, n)
			}
			checkRestForTwo(t, p, s.poly(p, 63), m, impl.Poly{}, m)
		}
	}
	got := results(impl.RestForTwo(2, poly("1"), poly("10"), poly("0"), poly("11")))
	expect(t, "RestForTwo", got, poly("11"))
	got = results(impl.RestForTwo(7, poly("5"), poly("10"), poly("5"), poly("106")))
	expect(t, "RestForTwo", got, poly("5"))
	// The same rest does not help if the moduli have a common divisor.
	got = results(impl.RestForTwo(3, poly("1"), poly("10"), poly("1"), poly("110")))
	expectCode(t, "RestForTwo", got, impl.ErrState)
}

// checkRestForTwo relies on this: only one polynomial of such a degree has both rests.
func checkRestForTwo(t *testing.T, p int64, a, m, b, n impl.Poly) {
	t.Helper()
	got, code := impl.RestForTwo(p, a, m, b, n)
	if !isCoprime(p, m, n) {
		expectCode(t, "RestForTwo", []any{got, code}, impl.ErrState)
		return
	}
	if code != impl.ErrNone || !impl.IsPoly(p, got) || degreeOf(got) >= degreeOf(m)+degreeOf(n) {
		t.Fatalf("RestForTwo(%d, %v, %v, %v, %v) = %v, %d", p, a, m, b, n, got, code)
	}
	if restBy(p, got, m) != restBy(p, a, m) || restBy(p, got, n) != restBy(p, b, n) {
		t.Errorf("RestForTwo(%d, %v, %v, %v, %v) = %v", p, a, m, b, n, got)
	}
}

func TestListsOfChapter2AreNew(t *testing.T) {
	list, _ := impl.IrreduciblesOf(2, 3)
	factors, _ := impl.FactorsOf(2, poly("110"))
	list[0], factors[0] = impl.Poly{}, impl.Factor{}
	again, _ := impl.IrreduciblesOf(2, 3)
	factorsAgain, _ := impl.FactorsOf(2, poly("110"))
	if again[0] != poly("1011") || factorsAgain[0].Prime != poly("10") {
		t.Errorf("a changed result comes back: %v, %v", again[0], factorsAgain[0])
	}
}
