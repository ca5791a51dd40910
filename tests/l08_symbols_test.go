package tests

import (
	"slices"
	"testing"

	"loop.example/g01245/impl"
)

// Modulo irreducible polynomials, squares are searched for.
func TestQuadraticSymbolsBySquares(t *testing.T) {
	s := &sampler{state: 310}
	for _, p := range oddPrimes {
		k := charactersOf(p)
		for n := 1; n <= 4; n++ {
			for range 3 {
				m := s.irreducible(p, n)
				for _, a := range someResidues(s, p, m, 130) {
					want := k.prime(a, m)
					expect(t, "QuadraticSymbol", results(impl.QuadraticSymbol(p, a, m)), want)
					expect(t, "QuadraticSymbol", results(impl.QuadraticSymbol(p, s.beyond(t, p, a, m), m)), want)
				}
			}
		}
		// There are as many squares as others.
		m, all := s.irreducible(p, 3), int64(0)
		for _, a := range residues(p, m) {
			all += must[int64](t)(impl.QuadraticSymbol(p, a, m))
		}
		if all != 0 {
			t.Errorf("%d: the symbols for %v make %d", p, m, all)
		}
	}
}

// expectQuadratic holds a symbol against that of chapter 2, and that of the test's own powers.
func expectQuadratic(t *testing.T, p int64, a, m impl.Poly) {
	t.Helper()
	got := results(impl.QuadraticSymbol(p, a, m))
	expect(t, "QuadraticSymbol", got, quadraticByPower(t, p, must[int64](t)(impl.SymbolOf(p, a, m))))
	expect(t, "QuadraticSymbol", got, quadraticByPower(t, p, symbolByPowers(t, p, a, m)))
}

func TestQuadraticSymbolsOfAllDegrees(t *testing.T) {
	s := &sampler{state: 311}
	for _, p := range oddPrimes {
		for n := 1; n <= impl.MaxSplit; n++ {
			prime := s.irreducible(p, (n+1)/2)
			squared := product(t, p, monomial(n%2), plainPower(p, s.monic(p, n/2), 2))
			divided := product(t, p, prime, s.monic(p, n/2))
			for _, m := range []impl.Poly{s.monic(p, n), s.irreducible(p, n), monomial(n), squared, divided} {
				for _, a := range []impl.Poly{s.poly(p, n-1), s.poly(p, n), s.poly(p, 63), {byte(p - 1)}, {2}, monomial(1), prime} {
					expectQuadratic(t, p, a, m)
				}
				expect(t, "QuadraticSymbol of 0", results(impl.QuadraticSymbol(p, impl.Poly{}, m)), int64(0))
				expect(t, "QuadraticSymbol of 1", results(impl.QuadraticSymbol(p, impl.Poly{1}, m)), int64(1))
				expect(t, "QuadraticSymbol of itself", results(impl.QuadraticSymbol(p, m, m)), int64(0))
			}
			// It has a factor in common with this.
			expect(t, "QuadraticSymbol", results(impl.QuadraticSymbol(p, product(t, p, prime, s.monic(p, 20)), divided)), int64(0))
		}
	}
}

func TestQuadraticSymbolsOfSmallModuli(t *testing.T) {
	s := &sampler{state: 312}
	for _, p := range oddPrimes {
		k := charactersOf(p)
		for _, m := range moduli(p, 3, normLimits[p]) {
			for _, a := range residues(p, m) {
				want := k.symbol(t, a, m)
				expect(t, "QuadraticSymbol", results(impl.QuadraticSymbol(p, a, m)), want)
				expect(t, "QuadraticSymbol", results(impl.QuadraticSymbol(p, s.beyond(t, p, a, m), m)), want)
			}
		}
	}
}

func TestQuadraticSymbolsByHand(t *testing.T) {
	for _, p := range oddPrimes {
		squares := map[int64]bool{}
		for c := int64(1); c < p; c++ {
			squares[c*c%p] = true
		}
		for c := int64(1); c < p; c++ {
			odd := int64(-1)
			if squares[c] {
				odd = 1
			}
			// Numbers are squares where the degree is even.
			expect(t, "QuadraticSymbol", results(impl.QuadraticSymbol(p, impl.Poly{byte(c)}, poly("10"))), odd)
			expect(t, "QuadraticSymbol", results(impl.QuadraticSymbol(p, impl.Poly{byte(c)}, monomial(2))), int64(1))
			expect(t, "QuadraticSymbol", results(impl.QuadraticSymbol(p, impl.Poly{byte(c)}, monomial(11))), odd)
			expect(t, "QuadraticSymbol", results(impl.QuadraticSymbol(p, impl.Poly{byte(c)}, monomial(12))), int64(1))
			expect(t, "QuadraticSymbol", results(impl.QuadraticSymbol(p, impl.Poly{byte(c), 1}, poly("10"))), odd)
		}
	}
	// T is the square of T + 2 modulo T^2 + 1; T + 1 is none.
	expect(t, "QuadraticSymbol", results(impl.QuadraticSymbol(3, poly("10"), poly("101"))), int64(1))
	expect(t, "QuadraticSymbol", results(impl.QuadraticSymbol(3, poly("11"), poly("101"))), int64(-1))
	expect(t, "QuadraticSymbol", results(impl.QuadraticSymbol(3, poly("1"), poly("10"))), int64(1))
	expect(t, "QuadraticSymbol", results(impl.QuadraticSymbol(3, poly("10"), poly("11"))), int64(-1))
	expect(t, "QuadraticSymbol", results(impl.QuadraticSymbol(5, poly("2"), poly("10"))), int64(-1))
	expect(t, "QuadraticSymbol", results(impl.QuadraticSymbol(7, poly("3"), poly("10"))), int64(-1))
	expect(t, "QuadraticSymbol", results(impl.QuadraticSymbol(7, poly("2"), poly("10"))), int64(1))
}

// isTooGreat reports whether a modulus has lesser degrees with too many monic polynomials.
func isTooGreat(p int64, m impl.Poly) bool {
	return int64(degreeOf(m))-1 > mostSummed[p]
}

// The symbols of all monic polynomials are those of a search for squares.
func TestSymbolPolynomial(t *testing.T) {
	s := &sampler{state: 313}
	for _, p := range oddPrimes {
		k := charactersOf(p)
		for _, m := range symbolModuli(t, s, p) {
			got := results(impl.SymbolPolynomial(p, m))
			if isTooGreat(p, m) {
				expectCode(t, "SymbolPolynomial", got, impl.ErrRange)
				expectCode(t, "ClassSum", results(impl.ClassSum(p, m)), impl.ErrRange)
				continue
			}
			want := k.polynomial(t, m)
			expect(t, "SymbolPolynomial", got, want)
			expect(t, "ClassSum", results(impl.ClassSum(p, m)), sumOf(want))
		}
	}
}

// The same sums by the symbols of the program.
func TestSymbolPolynomialsOneByOne(t *testing.T) {
	s := &sampler{state: 314}
	for _, p := range oddPrimes {
		for range 10 {
			for n := 1; n <= impl.MaxModulus; n++ {
				m := s.monic(p, n)
				if isTooGreat(p, m) {
					continue
				}
				var want []int64
				for d := range n {
					want = append(want, sumOfQuadratics(t, p, int64(d), m))
				}
				expect(t, "SymbolPolynomial", results(impl.SymbolPolynomial(p, m)), want)
			}
		}
	}
}

func sumOfQuadratics(t *testing.T, p, d int64, m impl.Poly) int64 {
	t.Helper()
	all := int64(0)
	for _, a := range must[[]impl.Poly](t)(impl.MonicPolys(p, d)) {
		all += must[int64](t)(impl.QuadraticSymbol(p, a, m))
	}
	return all
}

// For squarefree moduli all further sums are 0; the square of a polynomial has others.
func TestFurtherSumsOfSymbols(t *testing.T) {
	s := &sampler{state: 315}
	for _, p := range oddPrimes {
		for _, m := range symbolModuli(t, s, p) {
			for d := int64(degreeOf(m)); d <= mostSummed[p]; d++ {
				if all := sumOfQuadratics(t, p, d, m); all != 0 && !hasSquare(t, p, m) {
					t.Errorf("%d, %v: the symbols for the degree %d make %d", p, m, d, all)
				}
			}
		}
		if all := sumOfQuadratics(t, p, 2, monomial(2)); all != p*(p-1) {
			t.Errorf("%d: the symbols for T^2 make %d", p, all)
		}
	}
}

func TestSymbolPolynomialsByHand(t *testing.T) {
	for _, p := range oddPrimes {
		for c := range byte(p) {
			expect(t, "SymbolPolynomial", results(impl.SymbolPolynomial(p, impl.Poly{c, 1})), []int64{1})
			expect(t, "ClassSum", results(impl.ClassSum(p, impl.Poly{c, 1})), int64(1))
		}
		// The symbols for T^2 are squares, and not 0 but for multiples of T.
		expect(t, "SymbolPolynomial", results(impl.SymbolPolynomial(p, monomial(2))), []int64{1, p - 1})
		expect(t, "ClassSum", results(impl.ClassSum(p, monomial(2))), p)
		expect(t, "SymbolPolynomial", results(impl.SymbolPolynomial(p, monomial(4))), []int64{1, p - 1, p * (p - 1), p * p * (p - 1)})
		expect(t, "ClassSum", results(impl.ClassSum(p, monomial(4))), p*p*p)
		// For odd powers there are as many squares as others among the last coefficients.
		expect(t, "SymbolPolynomial", results(impl.SymbolPolynomial(p, monomial(3))), []int64{1, 0, 0})
	}
	expect(t, "SymbolPolynomial", results(impl.SymbolPolynomial(3, monomial(5))), []int64{1, 0, 0, 0, 0})
	expect(t, "SymbolPolynomial", results(impl.SymbolPolynomial(3, poly("101"))), []int64{1, -1})
	expect(t, "ClassSum", results(impl.ClassSum(3, poly("101"))), int64(0))
	// All polynomials of the degree 1 divide T^3 - T.
	expect(t, "SymbolPolynomial", results(impl.SymbolPolynomial(3, poly3(3))), []int64{1, 0, 3})
	expect(t, "ClassSum", results(impl.ClassSum(3, poly3(3))), int64(4))
	// Degrees with exactly MaxListed polynomials, and with more.
	expectCode(t, "SymbolPolynomial", results(impl.SymbolPolynomial(7, monomial(4))), impl.ErrNone)
	expectCode(t, "SymbolPolynomial", results(impl.SymbolPolynomial(7, monomial(5))), impl.ErrRange)
	expectCode(t, "ClassSum", results(impl.ClassSum(7, monomial(5))), impl.ErrRange)
	expectCode(t, "SymbolPolynomial", results(impl.SymbolPolynomial(5, monomial(4))), impl.ErrNone)
	expectCode(t, "SymbolPolynomial", results(impl.SymbolPolynomial(5, monomial(5))), impl.ErrRange)
	expectCode(t, "ClassSum", results(impl.ClassSum(5, monomial(5))), impl.ErrRange)
}

// Where D is m, or -m for 3 and 7, the sums are those of the points of its curve.
func TestClassSumsAreClassNumbers(t *testing.T) {
	s := &sampler{state: 316}
	for _, p := range oddPrimes {
		for _, k := range manyCurves(t, s, p) {
			m := plusTimes(p, impl.Poly{}, byte(inverseOf(p, int64(k.d[degreeOf(k.d)]))), k.d)
			if isTooGreat(p, m) {
				expectCode(t, "ClassSum", results(impl.ClassSum(p, m)), impl.ErrRange)
				continue
			}
			d := m
			if p != 5 {
				d = plusTimes(p, impl.Poly{}, byte(p-1), m)
			}
			expect(t, "ClassSum", results(impl.ClassSum(p, m)), must[int64](t)(impl.ClassNumber(p, d)))
			expect(t, "SymbolPolynomial", results(impl.SymbolPolynomial(p, m)), must[[]int64](t)(impl.CurvePolynomial(p, d)))
		}
	}
}

// expectSymbolSum holds a symbol sum against the symbols one after the other.
func expectSymbolSum(t *testing.T, p, d int64, m impl.Poly, symbol func(a impl.Poly) int64) {
	t.Helper()
	all := int64(0)
	for a := monomial(int(d)); degreeOf(a) == int(d); a = nextMonic(p, a) {
		all += symbol(a)
	}
	expect(t, "SymbolSum", results(impl.SymbolSum(p, m, d)), all%p)
}

// All d in their range are tried, and the next ones.
func TestSymbolSum(t *testing.T) {
	s := &sampler{state: 317}
	for _, p := range primes {
		for _, m := range symbolModuli(t, s, p) {
			symbol := func(a impl.Poly) int64 { return must[int64](t)(impl.SymbolOf(p, a, m)) }
			for d := int64(-1); d <= 9; d++ {
				code := codeOfPowers(p, d, 0, 0)
				expectCode(t, "SymbolSum", results(impl.SymbolSum(p, m, d)), code)
				if code == impl.ErrNone {
					expectSymbolSum(t, p, d, m, symbol)
				}
			}
		}
	}
}

// The symbols go by their powers.
func TestSymbolSumsByPowers(t *testing.T) {
	s := &sampler{state: 318}
	for _, p := range primes {
		list := append(moduli(p, 2, 25), s.irreducible(p, 3), s.monic(p, 3), monomial(5), s.irreducible(p, 5))
		for _, m := range list {
			known := map[impl.Poly]int64{}
			symbol := func(a impl.Poly) int64 {
				rest := restBy(p, a, m)
				if _, ok := known[rest]; !ok {
					known[rest] = symbolByPowers(t, p, rest, m)
				}
				return known[rest]
			}
			for d := range min(mostSummed[p], 3) + 1 {
				expectSymbolSum(t, p, d, m, symbol)
			}
		}
	}
}

func TestSymbolSumsByHand(t *testing.T) {
	for _, p := range primes {
		for n := 1; n <= impl.MaxModulus; n++ {
			expect(t, "SymbolSum", results(impl.SymbolSum(p, monomial(n), 0)), int64(1))
		}
		// The last coefficients go through all numbers, whose powers n make -1 or 0.
		for n := 1; n <= impl.MaxModulus; n++ {
			want := int64(0)
			if int64(n)%(p-1) == 0 {
				want = p - 1
			}
			expect(t, "SymbolSum", results(impl.SymbolSum(p, monomial(n), 1)), want)
			expect(t, "SymbolSum", results(impl.SymbolSum(p, monomial(n), 2)), int64(0))
		}
	}
	// T and T + 1 are summed over; T + 1 alone divides T^2 + 1.
	expect(t, "SymbolSum", results(impl.SymbolSum(2, poly("101"), 1)), int64(1))
	expect(t, "SymbolSum", results(impl.SymbolSum(2, poly("111"), 1)), int64(0))
	expect(t, "SymbolSum", results(impl.SymbolSum(2, poly("111"), 2)), int64(1))
	expect(t, "SymbolSum", results(impl.SymbolSum(3, poly("101"), 1)), int64(2))
	expectCode(t, "SymbolSum", results(impl.SymbolSum(7, poly("101"), 3)), impl.ErrNone)
	expectCode(t, "SymbolSum", results(impl.SymbolSum(7, poly("101"), 4)), impl.ErrRange)
}

// Sums are found by goroutines, and always come in the same order.
func TestSumsStayTheSame(t *testing.T) {
	m := poly("1011")
	type found struct {
		list   []int64
		nested impl.Poly
	}
	find := func() found {
		list, _ := impl.SymbolPolynomial(7, m)
		nested, _ := impl.NestedSum(3, 4, 8, 17)
		return found{list, nested}
	}
	want := found{charactersOf(7).polynomial(t, m), sumsOf(3).nested(t, 4, 8, 17)}
	answers := make(chan found)
	for range 20 {
		go func() { answers <- find() }()
	}
	for range 20 {
		if got := <-answers; !slices.Equal(got.list, want.list) || got.nested != want.nested {
			t.Errorf("the sums are %v, want %v", got, want)
		}
	}
}

// Results are new memory: changing one changes no later one.
func TestSymbolPolynomialsAreNew(t *testing.T) {
	list, _ := impl.SymbolPolynomial(3, poly3(3))
	list[0], list[2] = 7, 7
	expect(t, "SymbolPolynomial", results(impl.SymbolPolynomial(3, poly3(3))), []int64{1, 0, 3})
	expect(t, "ClassSum", results(impl.ClassSum(3, poly3(3))), int64(4))
}
