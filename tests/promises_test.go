package tests

import (
	"fmt"
	"slices"
	"strings"
	"testing"

	"loop.example/g01245/impl"
)

// must hands on the result of a call that has to return ErrNone.
func must[R any](t *testing.T) func(R, int64) R {
	return func(result R, code int64) R {
		t.Helper()
		if code != impl.ErrNone {
			t.Fatalf("code %d", code)
		}
		return result
	}
}

// Promise 1: quotients and rests lead back, factors tell the greatest common divisor, and
// polynomials come back from their texts.
func TestPromise1(t *testing.T) {
	s := &sampler{state: 13}
	ok := must[impl.Poly](t)
	for _, p := range primes {
		for range 300 {
			a, b := s.poly(p, int(s.below(64))), s.poly(p, int(s.below(64)))
			q, r, code := impl.DividePolys(p, a, b)
			if code != impl.ErrNone || must[int64](t)(impl.DegreeOf(p, r)) >= must[int64](t)(impl.DegreeOf(p, b)) {
				t.Errorf("%d: %v divided by %v has the rest %v, code %d", p, a, b, r, code)
			}
			if ok(impl.AddPolys(p, ok(impl.MultiplyPolys(p, q, b)), r)) != a {
				t.Errorf("%d: %v divided by %v does not lead back", p, a, b)
			}
			text := must[string](t)(impl.PolyText(p, a))
			if ok(impl.ParsePoly(p, text)) != a {
				t.Errorf("%d: %v does not come back from %q", p, a, text)
			}
			checkFactors(t, p, a, b)
		}
	}
}

// checkFactors multiplies without the program, for the products may exceed MaxDegree before they
// are added.
func checkFactors(t *testing.T, p int64, a, b impl.Poly) {
	t.Helper()
	d, u, v, code := impl.BezoutOf(p, a, b)
	left := plainOf(u).times(p, plainOf(a))
	right := plainOf(v).times(p, plainOf(b))
	if code != impl.ErrNone || !left.plus(p, 1, right).equals(plainOf(d)) {
		t.Errorf("%d: the factors of %v and %v are %v and %v, code %d", p, a, b, u, v, code)
	}
	if must[impl.Poly](t)(impl.GcdOf(p, a, b)) != d {
		t.Errorf("%d: GcdOf %v and %v is not %v", p, a, b, d)
	}
	for _, c := range []impl.Poly{a, b} {
		if _, rest, _ := impl.DividePolys(p, c, d); rest != (impl.Poly{}) {
			t.Errorf("%d: %v does not divide %v", p, d, c)
		}
	}
	if n := must[int64](t)(impl.DegreeOf(p, d)); d[n] != 1 {
		t.Errorf("%d: %v is not monic", p, d)
	}
}

// The guarantee at the end of chapter 1, where it says more than the promise.
func TestGuaranteeOfChapter1(t *testing.T) {
	s := &sampler{state: 14}
	ok := must[impl.Poly](t)
	for _, p := range primes {
		for range 200 {
			a, b, c := s.upTo(p, 31), s.upTo(p, 31), s.upTo(p, 31)
			product := ok(impl.MultiplyPolys(p, a, b))
			if product != ok(impl.MultiplyPolys(p, b, a)) {
				t.Errorf("%d: %v and %v do not commute", p, a, b)
			}
			sum := ok(impl.AddPolys(p, a, b))
			apart := ok(impl.AddPolys(p, ok(impl.MultiplyPolys(p, a, c)), ok(impl.MultiplyPolys(p, b, c))))
			if ok(impl.MultiplyPolys(p, sum, c)) != apart {
				t.Errorf("%d: %v, %v and %v do not distribute", p, a, b, c)
			}
			small, k, m := s.upTo(p, 7), s.below(10), s.poly(p, int(s.below(64)))
			_, rest, _ := impl.DividePolys(p, ok(impl.PowerOf(p, small, k)), m)
			if ok(impl.PowerModulo(p, small, k, m)) != rest {
				t.Errorf("%d: the power %d of %v modulo %v is not that of the power", p, k, small, m)
			}
			n := s.below(impl.MaxNumber + 1)
			if must[int64](t)(impl.NumberOfPoly(p, ok(impl.PolyOfNumber(p, n)))) != n {
				t.Errorf("%d: %d does not come back", p, n)
			}
		}
	}
}

// Promise 2: factors multiply to the polynomial, units to the power of the Euler number have the
// rest 1, and symbols are multiplicative and reciprocal.
func TestPromise2(t *testing.T) {
	s := &sampler{state: 31}
	for _, p := range primes {
		for range 40 {
			checkFactorsMultiply(t, p, s.poly(p, int(s.below(impl.MaxSplit+1))))
			checkEulerPower(t, p, s.upTo(p, 63), s.poly(p, 1+int(s.below(impl.MaxSplit))))
		}
		for range 300 {
			m, n := s.monic(p, 1+int(s.below(6))), s.monic(p, 1+int(s.below(6)))
			checkSymbolsMultiply(t, p, s.upTo(p, 31), s.upTo(p, 31), m, n)
			checkReciprocity(t, p, s.monic(p, 1+int(s.below(impl.MaxSplit))), product(t, p, m, n))
			checkReciprocity(t, p, m, n)
		}
	}
}

func checkFactorsMultiply(t *testing.T, p int64, a impl.Poly) {
	t.Helper()
	ok := must[impl.Poly](t)
	all := impl.Poly{a[must[int64](t)(impl.DegreeOf(p, a))]}
	factors := must[[]impl.Factor](t)(impl.FactorsOf(p, a))
	for i, f := range factors {
		if !must[bool](t)(impl.IsIrreducible(p, f.Prime)) || f.Power < 1 {
			t.Errorf("%d: %v has the factor %v", p, a, f)
		}
		before := max(i-1, 0)
		less := must[int64](t)(impl.NumberOfPoly(p, factors[before].Prime))
		if i > 0 && less >= must[int64](t)(impl.NumberOfPoly(p, f.Prime)) {
			t.Errorf("%d: the factors of %v are not in order", p, a)
		}
		all = ok(impl.MultiplyPolys(p, all, ok(impl.PowerOf(p, f.Prime, f.Power))))
	}
	if all != a {
		t.Errorf("%d: the factors of %v multiply to %v", p, a, all)
	}
}

func checkEulerPower(t *testing.T, p int64, a, m impl.Poly) {
	t.Helper()
	ok := must[impl.Poly](t)
	if ok(impl.GcdOf(p, a, m)) != (impl.Poly{1}) {
		return
	}
	euler := must[int64](t)(impl.EulerOf(p, m))
	if power := ok(impl.PowerModulo(p, a, euler, m)); power != (impl.Poly{1}) {
		t.Errorf("%d: %v to the power %d is %v modulo %v", p, a, euler, power, m)
	}
}

func checkSymbolsMultiply(t *testing.T, p int64, a, b, m, n impl.Poly) {
	t.Helper()
	ok, symbol := must[impl.Poly](t), must[int64](t)
	apart := symbol(impl.SymbolOf(p, a, m)) * symbol(impl.SymbolOf(p, b, m)) % p
	if symbol(impl.SymbolOf(p, ok(impl.MultiplyPolys(p, a, b)), m)) != apart {
		t.Errorf("%d: the symbols of %v and %v for %v do not multiply", p, a, b, m)
	}
	apart = symbol(impl.SymbolOf(p, a, m)) * symbol(impl.SymbolOf(p, a, n)) % p
	if symbol(impl.SymbolOf(p, a, ok(impl.MultiplyPolys(p, m, n)))) != apart {
		t.Errorf("%d: the symbols of %v for %v and %v do not multiply", p, a, m, n)
	}
}

func checkReciprocity(t *testing.T, p int64, a, b impl.Poly) {
	t.Helper()
	degree, symbol := must[int64](t), must[int64](t)
	want := symbol(impl.SymbolOf(p, b, a))
	if degree(impl.DegreeOf(p, a))*degree(impl.DegreeOf(p, b))%2 == 1 {
		want = want * (p - 1) % p
	}
	if must[impl.Poly](t)(impl.GcdOf(p, a, b)) != (impl.Poly{1}) {
		want = 0
	}
	if symbol(impl.SymbolOf(p, a, b)) != want {
		t.Errorf("%d: the symbol of %v and %v is not %d", p, a, b, want)
	}
}

// Promise 12: there are as many irreducible polynomials of a degree as are counted.
func TestPromise12(t *testing.T) {
	greatest := map[int64]int64{2: 8, 3: 5, 5: 3, 7: 3}
	for _, p := range primes {
		for n := int64(1); n <= greatest[p]; n++ {
			list := must[[]impl.Poly](t)(impl.IrreduciblesOf(p, n))
			if int64(len(list)) != must[int64](t)(impl.CountIrreducibles(p, n)) {
				t.Errorf("%d: there are %d of the degree %d", p, len(list), n)
			}
		}
	}
	// Beyond the lists each polynomial of the degree is asked.
	for _, n := range []int64{9, 10, 11, 12} {
		count := int64(0)
		for m := monomial(int(n)); degreeOf(m) == int(n); m = nextMonic(2, m) {
			if must[bool](t)(impl.IsIrreducible(2, m)) {
				count++
			}
		}
		if count != must[int64](t)(impl.CountIrreducibles(2, n)) {
			t.Errorf("2: there are %d of the degree %d", count, n)
		}
	}
}

// The guarantee at the end of chapter 2, where it says more than the promises.
func TestGuaranteeOfChapter2(t *testing.T) {
	s := &sampler{state: 32}
	ok := must[impl.Poly](t)
	for _, p := range primes {
		for range 200 {
			m := s.monic(p, 1+int(s.below(impl.MaxModulus)))
			_, a, _ := impl.DividePolys(p, s.upTo(p, 63), m)
			inverse, code := impl.InverseModulo(p, a, m)
			if ok(impl.GcdOf(p, a, m)) != (impl.Poly{1}) {
				if code != impl.ErrNotFound {
					t.Errorf("%d: %v has the inverse %v modulo %v", p, a, inverse, m)
				}
				continue
			}
			if code != impl.ErrNone || ok(impl.InverseModulo(p, inverse, m)) != a {
				t.Errorf("%d: the inverse %v of %v modulo %v does not lead back", p, inverse, a, m)
			}
			_, rest, _ := impl.DividePolys(p, ok(impl.MultiplyPolys(p, inverse, a)), m)
			if rest != (impl.Poly{1}) {
				t.Errorf("%d: %v is no inverse of %v modulo %v", p, inverse, a, m)
			}
		}
	}
}

// Promise 3: products of skew polynomials act one after the other, and quotients and rests from
// both sides lead back.
func TestPromise3(t *testing.T) {
	s := &sampler{state: 33}
	ok := must[impl.Skew](t)
	for _, p := range primes {
		for _, k := range towers(s, p) {
			for range 60 {
				n := int(s.below(impl.MaxSkew + 1))
				checkActions(t, k, s.skew(k, n), s.skew(k, int(s.below(int64(impl.MaxSkew-n+1)))), s.residue(k))
				f, g := s.skew(k, int(s.below(impl.MaxSkew+2))-1), s.skew(k, n)
				q, r, code := impl.DivideRight(p, k.m, f, g)
				back := ok(impl.AddSkews(p, k.m, ok(impl.MultiplySkews(p, k.m, q, g)), r))
				if code != impl.ErrNone || back != f || must[int64](t)(impl.SkewDegree(p, k.m, r)) >= int64(n) {
					t.Errorf("%d, %v: %v divided by %v from the right does not lead back", p, k.m, f, g)
				}
				q, r, code = impl.DivideLeft(p, k.m, f, g)
				back = ok(impl.AddSkews(p, k.m, ok(impl.MultiplySkews(p, k.m, g, q)), r))
				if code != impl.ErrNone || back != f || must[int64](t)(impl.SkewDegree(p, k.m, r)) >= int64(n) {
					t.Errorf("%d, %v: %v divided by %v from the left does not lead back", p, k.m, f, g)
				}
			}
		}
	}
}

// checkActions also sees that values are additive.
func checkActions(t *testing.T, k *tower, f, g impl.Skew, x impl.Poly) {
	t.Helper()
	ok := must[impl.Poly](t)
	product := must[impl.Skew](t)(impl.MultiplySkews(k.p, k.m, f, g))
	after := ok(impl.ValueOfSkew(k.p, k.m, f, ok(impl.ValueOfSkew(k.p, k.m, g, x))))
	if ok(impl.ValueOfSkew(k.p, k.m, product, x)) != after {
		t.Errorf("%d, %v: %v and %v do not act one after the other", k.p, k.m, f, g)
	}
	for _, y := range []impl.Poly{{1}, monomial(k.degree() - 1)} {
		both := ok(impl.ValueOfSkew(k.p, k.m, f, ok(impl.AddPolys(k.p, x, y))))
		apart := ok(impl.AddPolys(k.p, ok(impl.ValueOfSkew(k.p, k.m, f, x)), ok(impl.ValueOfSkew(k.p, k.m, f, y))))
		if both != apart {
			t.Errorf("%d, %v: the values of %v at %v and %v do not add up", k.p, k.m, f, x, y)
		}
	}
}

// The guarantee at the end of chapter 3, where it says more than the promise.
func TestGuaranteeOfChapter3(t *testing.T) {
	s := &sampler{state: 34}
	ok, degree := must[impl.Skew](t), must[int64](t)
	for _, p := range primes {
		for _, k := range towers(s, p) {
			for range 40 {
				f, g, h := s.skew(k, int(s.below(3))), s.skew(k, int(s.below(3))), s.skew(k, int(s.below(4)))
				left := ok(impl.MultiplySkews(p, k.m, ok(impl.MultiplySkews(p, k.m, f, g)), h))
				right := ok(impl.MultiplySkews(p, k.m, f, ok(impl.MultiplySkews(p, k.m, g, h))))
				if left != right {
					t.Errorf("%d, %v: %v, %v and %v do not associate", p, k.m, f, g, h)
				}
				f, g = ok(impl.MultiplySkews(p, k.m, f, h)), ok(impl.MultiplySkews(p, k.m, g, h))
				common := degree(impl.SkewDegree(p, k.m, ok(impl.RightDivisor(p, k.m, f, g))))
				multiple := degree(impl.SkewDegree(p, k.m, ok(impl.LeftMultiple(p, k.m, f, g))))
				if common+multiple != degree(impl.SkewDegree(p, k.m, f))+degree(impl.SkewDegree(p, k.m, g)) {
					t.Errorf("%d, %v: the degrees of %v and %v do not add up", p, k.m, f, g)
				}
				list := []impl.Poly{s.residue(k), s.residue(k), s.residue(k)}[:s.below(4)]
				least := degree(impl.SkewDegree(p, k.m, ok(impl.LeastSkew(p, k.m, list))))
				if least != int64(k.dimension(len(k.span(list)))) {
					t.Errorf("%d, %v: the least skew polynomial of %v has the degree %d", p, k.m, list, least)
				}
			}
		}
	}
}

// actionModuli returns moduli of all degrees: a sample, an irreducible one, and a power.
func actionModuli(s *sampler, p int64) []impl.Poly {
	var list []impl.Poly
	for d := 1; d <= impl.MaxModulus; d++ {
		list = append(list, s.monic(p, d), s.irreducible(p, d), plainPower(p, s.monic(p, 1), d))
	}
	return list
}

// Promise 4: exponents of irreducible moduli are these less 1, and annihilators divide the
// exponent.
func TestPromise4(t *testing.T) {
	s := &sampler{state: 91}
	ok := must[impl.Poly](t)
	for _, p := range primes {
		for _, m := range append(actionModuli(s, p), moduli(p, impl.MaxModulus, 50)...) {
			exponent := ok(impl.ExponentOf(p, m))
			less := ok(impl.SubtractPolys(p, m, impl.Poly{1}))
			if must[bool](t)(impl.IsIrreducible(p, m)) && exponent != less {
				t.Errorf("%d: the exponent of %v is %v", p, m, exponent)
			}
			for _, x := range someResidues(s, p, m, 50) {
				annihilator := ok(impl.AnnihilatorOf(p, x, m))
				if _, rest, _ := impl.DividePolys(p, exponent, annihilator); rest != (impl.Poly{}) {
					t.Errorf("%d, %v: the annihilator of %v does not divide the exponent", p, m, x)
				}
				if ok(impl.ActOnResidue(p, annihilator, x, m)) != (impl.Poly{}) {
					t.Errorf("%d, %v: the annihilator of %v does not lead it to 0", p, m, x)
				}
			}
		}
	}
}

// Promise 13, for Carlitz's module: actions of products are those of the factors one after the
// other.
func TestPromise13ForCarlitz(t *testing.T) {
	s := &sampler{state: 92}
	greatest := map[int64]int64{2: impl.MaxAction, 3: 4, 5: 3, 7: 3}
	for _, p := range primes {
		for range 100 {
			n := s.below(greatest[p] + 1)
			a, b := s.upTo(p, int(n)), s.upTo(p, int(greatest[p]-n))
			checkActionsCompose(t, p, a, b)
			checkActionsCompose(t, p, b, a)
			checkActionsAdd(t, p, s.upTo(p, int(greatest[p])), a)
		}
		for _, m := range actionModuli(s, p) {
			for range 10 {
				n := int(s.below(64))
				checkActionsOnResidue(t, p, s.poly(p, n), s.upTo(p, 63-n), s.upTo(p, 63), m)
			}
		}
	}
}

func checkActionsCompose(t *testing.T, p int64, a, b impl.Poly) {
	t.Helper()
	ok := must[[]impl.Poly](t)
	product := must[impl.Poly](t)(impl.MultiplyPolys(p, a, b))
	want := ok(impl.ActionOf(p, product))
	got := ok(impl.ComposeActions(p, ok(impl.ActionOf(p, a)), ok(impl.ActionOf(p, b))))
	if !slices.Equal(got, want) {
		t.Errorf("%d: the actions of %v and %v compose to %v", p, a, b, got)
	}
}

func checkActionsAdd(t *testing.T, p int64, a, b impl.Poly) {
	t.Helper()
	ok := must[[]impl.Poly](t)
	opposite := must[impl.Poly](t)(impl.SubtractPolys(p, impl.Poly{}, a))
	for _, x := range []impl.Poly{a, b, opposite} {
		sum := must[impl.Poly](t)(impl.AddPolys(p, a, x))
		want := ok(impl.ActionOf(p, sum))
		got := ok(impl.AddActions(p, ok(impl.ActionOf(p, a)), ok(impl.ActionOf(p, x))))
		if !slices.Equal(got, want) {
			t.Errorf("%d: the actions of %v and %v add up to %v", p, a, x, got)
		}
	}
}

func checkActionsOnResidue(t *testing.T, p int64, a, b, x, m impl.Poly) {
	t.Helper()
	ok := must[impl.Poly](t)
	after := ok(impl.ActOnResidue(p, a, ok(impl.ActOnResidue(p, b, x, m)), m))
	if ok(impl.ActOnResidue(p, ok(impl.MultiplyPolys(p, a, b)), x, m)) != after {
		t.Errorf("%d, %v: %v and %v do not act on %v one after the other", p, m, a, b, x)
	}
	apart := ok(impl.AddPolys(p, ok(impl.ActOnResidue(p, a, x, m)), ok(impl.ActOnResidue(p, b, x, m))))
	if ok(impl.ActOnResidue(p, ok(impl.AddPolys(p, a, b)), x, m)) != apart {
		t.Errorf("%d, %v: the actions of %v and %v on %v do not add up", p, m, a, b, x)
	}
}

// The guarantee at the end of chapter 4, where it says more than the promises.
func TestGuaranteeOfChapter4(t *testing.T) {
	s := &sampler{state: 93}
	for _, p := range primes {
		for _, m := range append(actionModuli(s, p), moduli(p, impl.MaxModulus, 50)...) {
			exponent := must[impl.Poly](t)(impl.ExponentOf(p, m))
			torsion := must[int64](t)(impl.TorsionNumber(p, exponent, m))
			if torsion != must[int64](t)(impl.DegreeOf(p, m)) {
				t.Errorf("%d: the torsion number of the exponent of %v is %d", p, m, torsion)
			}
		}
	}
}

// The main guarantee, where it speaks of chapters 3 and 4: actions are products of skew
// polynomials, and residues modulo an irreducible polynomial are a module with one generator.
func TestMainGuaranteeOfActions(t *testing.T) {
	s := &sampler{state: 94}
	for _, p := range primes {
		for d := 1; d <= 4; d++ {
			m := s.irreducible(p, d)
			for range 20 {
				checkActionsAreSkews(t, p, m, s.upTo(p, 2), s.upTo(p, 1), s.upTo(p, d-1))
			}
			checkGeneratorReachesAll(t, p, m)
		}
		checkGeneratorReachesAll(t, p, s.irreducible(p, impl.MaxModulus))
		for _, m := range moduli(p, impl.MaxModulus, 50) {
			if must[bool](t)(impl.IsIrreducible(p, m)) {
				checkGeneratorReachesAll(t, p, m)
			}
		}
	}
}

// skewOfAction takes the rests of a list.
func skewOfAction(t *testing.T, p int64, list []impl.Poly, m impl.Poly) impl.Skew {
	t.Helper()
	var f impl.Skew
	for i, c := range list {
		_, f[i], _ = impl.DividePolys(p, c, m)
	}
	return f
}

func checkActionsAreSkews(t *testing.T, p int64, m, a, b, x impl.Poly) {
	t.Helper()
	action, ok := must[[]impl.Poly](t), must[impl.Poly](t)
	f := skewOfAction(t, p, action(impl.ActionOf(p, a)), m)
	g := skewOfAction(t, p, action(impl.ActionOf(p, b)), m)
	both := action(impl.ActionOf(p, ok(impl.MultiplyPolys(p, a, b))))
	if must[impl.Skew](t)(impl.MultiplySkews(p, m, f, g)) != skewOfAction(t, p, both, m) {
		t.Errorf("%d, %v: the action of the product of %v and %v is no product", p, m, a, b)
	}
	if ok(impl.ValueOfSkew(p, m, f, x)) != ok(impl.ActOnResidue(p, a, x, m)) {
		t.Errorf("%d, %v: the action of %v on %v is no value", p, m, a, x)
	}
}

// checkGeneratorReachesAll relies on this: what has as many images as there are residues reaches
// them all.
func checkGeneratorReachesAll(t *testing.T, p int64, m impl.Poly) {
	t.Helper()
	ok := must[impl.Poly](t)
	generator := ok(impl.CarlitzGenerator(p, m))
	reached, all := map[impl.Poly]bool{}, residues(p, m)
	for _, a := range all {
		reached[ok(impl.ActOnResidue(p, a, generator, m))] = true
	}
	if len(reached) != len(all) {
		t.Errorf("%d: the generator %v reaches %d residues modulo %v", p, generator, len(reached), m)
	}
}

// Promise 5: the characteristic polynomial leads all vectors to 0, and companions have their
// polynomial as the only invariant factor.
func TestPromise5(t *testing.T) {
	s := &sampler{state: 130}
	ok := must[impl.Poly](t)
	for _, p := range primes {
		for n := 1; n <= impl.MaxRows; n++ {
			for _, k := range mixedSquares(t, s, p, n) {
				a := ok(impl.CharacteristicOf(p, k.size(), k.s))
				vectors := append(k.basis(), s.row(p, n), s.row(p, n))
				if isSmall(p, n) {
					vectors = k.vectors()
				}
				for _, v := range vectors {
					if must[impl.Row](t)(impl.ApplySquare(p, k.size(), k.s, a, v)) != (impl.Row{}) {
						t.Errorf("%d, %v: %v does not lead %v to 0", p, k.s, a, v)
					}
				}
			}
			for _, a := range []impl.Poly{monomial(n), s.monic(p, n), s.monic(p, n), s.irreducible(p, n)} {
				companion := must[impl.Square](t)(impl.CompanionOf(p, a))
				list := must[[]impl.Poly](t)(impl.InvariantFactors(p, int64(n), companion))
				if !slices.Equal(list, []impl.Poly{a}) || ok(impl.CharacteristicOf(p, int64(n), companion)) != a {
					t.Errorf("%d: the companion of %v has the invariant factors %v", p, a, list)
				}
			}
		}
	}
}

// Promise 16: matrices of skew polynomials act as these do.
func TestPromise16(t *testing.T) {
	s := &sampler{state: 131}
	for _, p := range primes {
		for _, k := range towers(s, p) {
			for range 40 {
				f := s.skew(k, int(s.below(impl.MaxSkew+2))-1)
				checkSquareActs(t, k, f, s.residue(k))
				n := int(s.below(impl.MaxSkew + 1))
				g, h := s.skew(k, n), s.skew(k, impl.MaxSkew-n)
				checkSquareActs(t, k, must[impl.Skew](t)(impl.MultiplySkews(p, k.m, g, h)), s.residue(k))
				checkSquareActs(t, k, g, must[impl.Poly](t)(impl.ValueOfSkew(p, k.m, h, s.residue(k))))
			}
			for _, f := range []impl.Skew{{}, one(), tau(impl.Poly{1}, 1), k.unitSkew()} {
				checkSquareActs(t, k, f, s.residue(k))
			}
		}
	}
}

func checkSquareActs(t *testing.T, k *tower, f impl.Skew, x impl.Poly) {
	t.Helper()
	size := must[int64](t)(impl.DegreeOf(k.p, k.m))
	square := must[impl.Square](t)(impl.SquareOfSkew(k.p, k.m, f))
	if !impl.IsSquare(k.p, size, square) {
		t.Errorf("%d, %v: %v is no matrix", k.p, k.m, square)
	}
	image := must[impl.Row](t)(impl.ApplySquare(k.p, size, square, monomial(1), impl.Row(x[:6])))
	value := must[impl.Poly](t)(impl.ValueOfSkew(k.p, k.m, f, x))
	if image != impl.Row(value[:6]) {
		t.Errorf("%d, %v: the matrix of %v leads %v to %v", k.p, k.m, f, x, image)
	}
}

// The guarantee at the end of chapter 5, where it says more than the promises.
func TestGuaranteeOfChapter5(t *testing.T) {
	s := &sampler{state: 132}
	ok := must[impl.Poly](t)
	for _, p := range primes {
		for n := 1; n <= impl.MaxRows; n++ {
			for _, k := range mixedSquares(t, s, p, n) {
				least := ok(impl.LeastOf(p, k.size(), k.s))
				for _, v := range append(k.basis(), s.row(p, n), impl.Row{}) {
					order := ok(impl.OrderOfVector(p, k.size(), k.s, v))
					if _, rest, _ := impl.DividePolys(p, least, order); rest != (impl.Poly{}) {
						t.Errorf("%d, %v: the order %v of %v does not divide %v", p, k.s, order, v, least)
					}
				}
				all := impl.Poly{1}
				list := must[[]impl.Poly](t)(impl.InvariantFactors(p, k.size(), k.s))
				for _, d := range list {
					all = ok(impl.MultiplyPolys(p, all, d))
				}
				if all != ok(impl.CharacteristicOf(p, k.size(), k.s)) || list[len(list)-1] != least {
					t.Errorf("%d, %v: the invariant factors are %v", p, k.s, list)
				}
			}
		}
	}
}

// The main guarantee, where it speaks of chapter 5: residues modulo an irreducible polynomial are a
// module with one generator, now by the matrix of the skew polynomial T + tau.
func TestMainGuaranteeOfMatrices(t *testing.T) {
	s := &sampler{state: 133}
	ok := must[impl.Poly](t)
	for _, p := range primes {
		for d := 1; d <= 4; d++ {
			m, size := s.irreducible(p, d), int64(d)
			_, x, _ := impl.DividePolys(p, monomial(1), m)
			square := must[impl.Square](t)(impl.SquareOfSkew(p, m, impl.Skew{x, {1}}))
			list := must[[]impl.Poly](t)(impl.InvariantFactors(p, size, square))
			if !slices.Equal(list, []impl.Poly{ok(impl.ExponentOf(p, m))}) {
				t.Errorf("%d: the module of %v has the invariant factors %v", p, m, list)
			}
			generator := must[impl.Row](t)(impl.ModuleGenerator(p, size, square))
			var y impl.Poly
			copy(y[:], generator[:])
			if ok(impl.AnnihilatorOf(p, y, m)) != list[len(list)-1] {
				t.Errorf("%d: %v is no generator of the module of %v", p, y, m)
			}
		}
	}
}

// Promise 6: Frobenius polynomials lead the power of tau to 0, and twists keep them.
func TestPromise6(t *testing.T) {
	s := &sampler{state: 180}
	for _, p := range primes {
		for _, k := range towers(s, p) {
			for _, n := range s.someRankTwo(k, 10) {
				checkFrobeniusLeadsToZero(t, k, n.told(), s.residue(k))
				checkTwistsKeep(t, n.told(), s.unit(k))
			}
		}
		for _, k := range fewResidues(p) {
			for _, n := range allRankTwo(k) {
				checkFrobeniusLeadsToZero(t, k, n.told(), s.residue(k))
			}
			n := s.rankTwo(k).told()
			for _, c := range k.all[1:] {
				checkTwistsKeep(t, n, c)
			}
		}
	}
}

// checkFrobeniusLeadsToZero sees F F, less the action of a times F, and that of b, as a sum of powers
// of tau, and at a residue, which F leaves as it is.
func checkFrobeniusLeadsToZero(t *testing.T, k *tower, n impl.Drinfeld, x impl.Poly) {
	t.Helper()
	a, b, code := impl.FrobeniusOf(n)
	if code != impl.ErrNone || degreeOf(a) > k.degree()/2 || degreeOf(b) != k.degree() {
		t.Errorf("FrobeniusOf(%v) = %v, %v, %d", n, a, b, code)
	}
	if !(rankTwo{k, n.G, n.D}).isFrobenius(drinfeldAction(t, n, a), drinfeldAction(t, n, b)) {
		t.Errorf("%v: %v and %v do not lead the power of tau to 0", n, a, b)
	}
	ok := must[impl.Poly](t)
	value := ok(impl.SubtractPolys(n.Prime, x, ok(impl.DrinfeldValue(n, a, x))))
	value = ok(impl.AddPolys(n.Prime, value, ok(impl.DrinfeldValue(n, b, x))))
	if value != (impl.Poly{}) {
		t.Errorf("%v: %v and %v lead %v to %v", n, a, b, x, value)
	}
}

func drinfeldAction(t *testing.T, n impl.Drinfeld, a impl.Poly) []impl.Poly {
	t.Helper()
	return must[[]impl.Poly](t)(impl.DrinfeldAction(n, a))
}

// checkTwistsKeep sees that a twist has the same Frobenius polynomial and invariant, and that it is
// isomorphic.
func checkTwistsKeep(t *testing.T, n impl.Drinfeld, c impl.Poly) {
	t.Helper()
	twist := must[impl.Drinfeld](t)(impl.TwistOf(n, c))
	a, b, _ := impl.FrobeniusOf(n)
	expect(t, "FrobeniusOf", results(impl.FrobeniusOf(twist)), a, b)
	expect(t, "InvariantOf", results(impl.InvariantOf(twist)), must[impl.Poly](t)(impl.InvariantOf(n)))
	expect(t, "AreIsomorphic", results(impl.AreIsomorphic(n, twist)), true)
	if !impl.IsDrinfeld(twist) {
		t.Errorf("%v, the twist of %v, is no module", twist, n)
	}
}

// Promise 13, for Drinfeld modules: actions of products are those of the factors one after the
// other.
func TestPromise13ForDrinfeld(t *testing.T) {
	s := &sampler{state: 181}
	for _, p := range primes {
		for _, k := range towers(s, p) {
			for _, n := range s.someRankTwo(k, 4) {
				for range 5 {
					i, j := int(s.below(6)), int(s.below(64))
					checkDrinfeldActions(t, n, s.upTo(p, i), s.upTo(p, 5-i))
					checkDrinfeldValues(t, n.told(), s.upTo(p, j), s.upTo(p, 63-j), s.upTo(p, 63))
				}
			}
		}
	}
}

// checkDrinfeldActions multiplies by chapter 3 where the product fits there.
func checkDrinfeldActions(t *testing.T, n rankTwo, a, b impl.Poly) {
	t.Helper()
	first, second := drinfeldAction(t, n.told(), a), drinfeldAction(t, n.told(), b)
	want := drinfeldAction(t, n.told(), must[impl.Poly](t)(impl.MultiplyPolys(n.p, a, b)))
	if got := n.multiplied(first, second); !slices.Equal(got, want) {
		t.Errorf("%v: the actions of %v and %v make %v", n.told(), a, b, got)
	}
	if len(want) > 0 && len(want) <= impl.MaxSkew+1 {
		var f, g, h impl.Skew
		copy(f[:], first)
		copy(g[:], second)
		copy(h[:], want)
		expect(t, "MultiplySkews", results(impl.MultiplySkews(n.p, n.m, f, g)), h)
	}
}

func checkDrinfeldValues(t *testing.T, n impl.Drinfeld, a, b, x impl.Poly) {
	t.Helper()
	ok := must[impl.Poly](t)
	after := ok(impl.DrinfeldValue(n, a, ok(impl.DrinfeldValue(n, b, x))))
	if ok(impl.DrinfeldValue(n, ok(impl.MultiplyPolys(n.Prime, a, b)), x)) != after {
		t.Errorf("%v: %v and %v do not act on %v one after the other", n, a, b, x)
	}
	apart := ok(impl.AddPolys(n.Prime, ok(impl.DrinfeldValue(n, a, x)), ok(impl.DrinfeldValue(n, b, x))))
	if ok(impl.DrinfeldValue(n, ok(impl.AddPolys(n.Prime, a, b)), x)) != apart {
		t.Errorf("%v: the actions of %v and %v on %v do not add up", n, a, b, x)
	}
}

// The guarantee at the end of chapter 6, where it says more than the promises: F is an isogeny to
// the module itself, and the action of the order takes all residues to 0.
func TestGuaranteeOfChapter6(t *testing.T) {
	s := &sampler{state: 182}
	for _, p := range primes {
		for _, k := range append(towers(s, p), fewResidues(p)...) {
			power := make([]impl.Poly, must[int64](t)(impl.DegreeOf(p, k.m))+1)
			power[len(power)-1] = impl.Poly{1}
			list := k.all
			if len(list) > 125 {
				list = []impl.Poly{{1}, monomial(1), monomial(k.degree() - 1), s.residue(k), s.residue(k)}
			}
			for _, n := range s.someRankTwo(k, 4) {
				expect(t, "IsIsogeny", results(impl.IsIsogeny(n.told(), n.told(), power)), true)
				order := must[impl.Poly](t)(impl.OrderPolynomial(n.told()))
				for _, x := range list {
					expect(t, "DrinfeldValue", results(impl.DrinfeldValue(n.told(), order, x)), impl.Poly{})
				}
				twist := n.twistedBy(s.unit(k)).told()
				expect(t, "OrderPolynomial", results(impl.OrderPolynomial(twist)), order)
			}
		}
	}
}

// Promise 7: compositions are associative and commutative, and orders of forms divide the class
// number.
func TestPromise7(t *testing.T) {
	s := &sampler{state: 260}
	for _, p := range oddPrimes {
		for _, k := range curves(t, s, p) {
			list := must[[]impl.Form](t)(impl.ReducedForms(p, k.d))
			class := must[int64](t)(impl.ClassNumber(p, k.d))
			for range 30 {
				checkFormsCompose(t, k, s.formOf(list), s.formOf(list), s.formOf(list))
			}
			for _, order := range must[[]int64](t)(impl.GroupOrders(p, k.d)) {
				if order < 1 || class%order != 0 {
					t.Errorf("%d, %v: the order %d does not divide %d", p, k.d, order, class)
				}
			}
			f := s.formOf(list)
			if order := must[int64](t)(impl.OrderOfForm(p, k.d, f)); class%order != 0 {
				t.Errorf("%d, %v: the order %d of %v does not divide %d", p, k.d, order, f, class)
			}
			if len(list) <= 8 {
				checkGroup(t, k, list)
			}
		}
	}
}

// checkGroup tries all compositions of the forms of a list.
func checkGroup(t *testing.T, k curve, list []impl.Form) {
	t.Helper()
	for _, f := range list {
		for _, g := range list {
			for _, h := range list {
				checkFormsCompose(t, k, f, g, h)
			}
		}
	}
}

func checkFormsCompose(t *testing.T, k curve, f, g, h impl.Form) {
	t.Helper()
	ok := must[impl.Form](t)
	fg, gh := ok(impl.ComposeForms(k.p, k.d, f, g)), ok(impl.ComposeForms(k.p, k.d, g, h))
	if ok(impl.ComposeForms(k.p, k.d, g, f)) != fg {
		t.Errorf("%d, %v: %v and %v do not commute", k.p, k.d, f, g)
	}
	if ok(impl.ComposeForms(k.p, k.d, fg, h)) != ok(impl.ComposeForms(k.p, k.d, f, gh)) {
		t.Errorf("%d, %v: %v, %v and %v do not associate", k.p, k.d, f, g, h)
	}
	if degreeOf(fg.A) > k.genus() || !impl.IsForm(k.p, k.d, fg) {
		t.Errorf("%d, %v: %v and %v make %v", k.p, k.d, f, g, fg)
	}
}

// Promise 17: the sum of the coefficients of the L polynomial of a curve is its class number.
func TestPromise17(t *testing.T) {
	s := &sampler{state: 261}
	for _, p := range oddPrimes {
		list := curves(t, s, p)
		for range 60 {
			n := []int{1, 3, 5}[s.below(3)]
			list = append(list, s.discriminant(t, p, n, byte(1+s.below(p-1))))
		}
		for _, k := range list {
			class := must[int64](t)(impl.ClassNumber(p, k.d))
			polynomial := must[[]int64](t)(impl.CurvePolynomial(p, k.d))
			if sumOf(polynomial) != class || len(polynomial) != 2*k.genus()+1 || polynomial[0] != 1 {
				t.Errorf("%d, %v: the L polynomial is %v, and the class number %d", p, k.d, polynomial, class)
			}
		}
	}
}

// The guarantee at the end of chapter 7, where it says more than the promises: inverses undo forms.
func TestGuaranteeOfChapter7(t *testing.T) {
	s := &sampler{state: 262}
	for _, p := range oddPrimes {
		for _, k := range curves(t, s, p) {
			list := must[[]impl.Form](t)(impl.ReducedForms(p, k.d))
			for _, f := range list {
				checkInverseUndoes(t, k, f, s.formOf(list), int64(len(list)))
			}
			for _, f := range s.someForms(t, k, impl.MaxForm) {
				checkReducedInverse(t, k, f)
			}
		}
	}
}

func checkInverseUndoes(t *testing.T, k curve, f, g impl.Form, class int64) {
	t.Helper()
	ok := must[impl.Form](t)
	inverse := ok(impl.InverseForm(k.p, k.d, f))
	expect(t, "ComposeForms", results(impl.ComposeForms(k.p, k.d, f, inverse)), unitForm())
	both := ok(impl.ComposeForms(k.p, k.d, g, f))
	expect(t, "ComposeForms", results(impl.ComposeForms(k.p, k.d, both, inverse)), g)
	expect(t, "PowerOfForm", results(impl.PowerOfForm(k.p, k.d, f, -1)), inverse)
	expect(t, "PowerOfForm", results(impl.PowerOfForm(k.p, k.d, f, class)), unitForm())
}

// checkReducedInverse sees that a form that need not be reduced, and its inverse, do so as well.
func checkReducedInverse(t *testing.T, k curve, f impl.Form) {
	t.Helper()
	ok := must[impl.Form](t)
	reduced := ok(impl.ReduceForm(k.p, k.d, f))
	inverse := ok(impl.ReduceForm(k.p, k.d, ok(impl.InverseForm(k.p, k.d, f))))
	expect(t, "ComposeForms", results(impl.ComposeForms(k.p, k.d, reduced, inverse)), unitForm())
	expect(t, "InverseForm", results(impl.InverseForm(k.p, k.d, reduced)), inverse)
}

// The main guarantee, where it speaks of chapter 7: class numbers are told by counts of points.
func TestMainGuaranteeOfClassNumbers(t *testing.T) {
	s := &sampler{state: 263}
	for _, p := range oddPrimes {
		for _, k := range curves(t, s, p) {
			points := must[[]int64](t)(impl.CountPoints(p, k.d))
			want := []int64{1, points[0], (points[0]*points[0]+points[1])/2 - p}[k.genus()]
			expect(t, "ClassNumber", results(impl.ClassNumber(p, k.d)), want)
		}
	}
}

// Promise 8: zeta at negative multiples of p - 1 is 0, and polynomials of symbols begin with 1.
func TestPromise8(t *testing.T) {
	s := &sampler{state: 330}
	for _, p := range primes {
		found := 0
		for k := p - 1; k <= impl.MaxExponent; k += p - 1 {
			zeta, code := impl.ZetaAt(p, k)
			if zeta != (impl.Poly{}) || code != impl.ErrNone && code != impl.ErrLimit {
				t.Errorf("ZetaAt(%d, %d) = %v, %d", p, k, zeta, code)
			}
			if code == impl.ErrNone {
				found++
			}
		}
		if found < 6 {
			t.Errorf("%d: zeta is found %d times", p, found)
		}
	}
	for _, p := range oddPrimes {
		for _, m := range symbolModuli(t, s, p) {
			list, code := impl.SymbolPolynomial(p, m)
			if isTooGreat(p, m) {
				continue
			}
			if code != impl.ErrNone || len(list) != degreeOf(m) || list[0] != 1 {
				t.Errorf("SymbolPolynomial(%d, %v) = %v, %d", p, m, list, code)
			}
		}
	}
}

// The guarantee at the end of chapter 8, where it says more than the promise.
func TestGuaranteeOfChapter8(t *testing.T) {
	s := &sampler{state: 331}
	ok := must[impl.Poly](t)
	for _, p := range primes {
		for d := int64(0); d <= mostSummed[p]; d++ {
			for k := int64(0); p*k <= impl.MaxExponent && d*p*k <= impl.MaxDegree; k++ {
				want := ok(impl.PowerOf(p, ok(impl.PowerSum(p, d, k)), p))
				expect(t, "PowerSum", results(impl.PowerSum(p, d, p*k)), want)
			}
		}
		for _, m := range symbolModuli(t, s, p) {
			// A symbol is a product of values at as many roots of m as its degree tells.
			least := int64(degreeOf(m))/(p-1) + 1
			for d := least; d <= mostSummed[p]; d++ {
				expect(t, "SymbolSum", results(impl.SymbolSum(p, m, d)), int64(0))
			}
		}
	}
}

// The main guarantee, where it speaks of chapters 7 and 8: class numbers are told by counts of points,
// and now also by symbols.
func TestMainGuaranteeOfClassSums(t *testing.T) {
	s := &sampler{state: 332}
	for _, p := range oddPrimes {
		for _, n := range []int{1, 3, 5} {
			for range 10 {
				m := s.discriminant(t, p, n, 1).d
				if isTooGreat(p, m) {
					continue
				}
				d := m
				if p%4 == 3 {
					d = must[impl.Poly](t)(impl.SubtractPolys(p, impl.Poly{}, m))
				}
				class := must[int64](t)(impl.ClassNumber(p, d))
				expect(t, "ClassSum", results(impl.ClassSum(p, m)), class)
				if sum := sumOf(must[[]int64](t)(impl.CurvePolynomial(p, d))); sum != class {
					t.Errorf("%d, %v: the points make %d, and the symbols %d", p, m, sum, class)
				}
			}
		}
	}
}

// Promise 9: Moore determinants are not 0 exactly for independent residues, and words that are
// encoded are decoded.
func TestPromise9(t *testing.T) {
	s := &sampler{state: 430}
	for _, p := range primes {
		for _, k := range towers(s, p) {
			for _, list := range listSamples(s, k, impl.MaxPlaces) {
				d := must[impl.Poly](t)(impl.MooreDeterminant(p, k.m, list))
				span := must[[]impl.Poly](t)(impl.SpanOf(p, k.m, list))
				if (d != impl.Poly{}) != (len(span) == len(list)) {
					t.Errorf("%d, %v: %v has the determinant %v and the span %v", p, k.m, list, d, span)
				}
			}
			for _, c := range s.rankCodes(k) {
				for _, message := range s.messages(c) {
					word := must[[]impl.Poly](t)(impl.EncodeRank(p, k.m, c.places, message))
					expect(t, "DecodeRank", results(impl.DecodeRank(p, k.m, c.places, c.coefficients(), word)), message)
					expect(t, "IsCodeWord", results(impl.IsCodeWord(p, k.m, c.places, c.coefficients(), word)), true)
				}
			}
		}
	}
}

// The guarantee at the end of chapter 9, where it says more than the promise.
func TestGuaranteeOfChapter9(t *testing.T) {
	s := &sampler{state: 431}
	for _, p := range primes {
		for _, k := range towers(s, p) {
			for _, c := range s.rankCodes(k) {
				n := len(c.places)
				for rank := range c.most() + 1 {
					message := s.list(k, c.size)
					sent := must[[]impl.Poly](t)(impl.EncodeRank(p, k.m, c.places, message))
					word := c.spoilt(sent, s.ofRank(k, n, rank))
					expect(t, "RankDistance", results(impl.RankDistance(p, k.m, sent, word)), int64(rank))
					expect(t, "DecodeRank", results(impl.DecodeRank(p, k.m, c.places, c.coefficients(), word)), message)
				}
				values := s.list(k, n)
				f := must[impl.Skew](t)(impl.InterpolateSkew(p, k.m, c.places, values))
				for i, x := range c.places {
					expect(t, "ValueOfSkew", results(impl.ValueOfSkew(p, k.m, f, x)), values[i])
				}
			}
		}
	}
}

// Promise 15: the kernel of a least skew polynomial is the span of its residues.
func TestPromise15(t *testing.T) {
	s := &sampler{state: 432}
	for _, p := range primes {
		for _, k := range towers(s, p) {
			for _, list := range append(listSamples(s, k, 9), k.all) {
				f := must[impl.Skew](t)(impl.LeastSkew(p, k.m, list))
				span := must[[]impl.Poly](t)(impl.SpanOf(p, k.m, list))
				expectList(t, "KernelOfSkew", results(impl.KernelOfSkew(p, k.m, f)), span)
			}
		}
	}
}

// Promise 10: continued fractions come back from their convergents, and roots square to the beginning of
// the polynomial.
func TestPromise10(t *testing.T) {
	s := &sampler{state: 550}
	ok := must[impl.Poly](t)
	for _, p := range primes {
		for range 100 {
			list := s.partials(p, 1+int(s.below(impl.MaxPartials)), impl.MaxDegree)
			overs, unders, code := impl.ConvergentsOf(p, list)
			if code != impl.ErrNone || len(overs) != len(list) || len(unders) != len(list) {
				t.Fatalf("ConvergentsOf(%d, %v) = %v, %v, %d", p, list, overs, unders, code)
			}
			for k := range list {
				expect(t, "ContinuedFraction", results(impl.ContinuedFraction(p, overs[k], unders[k])), list[:k+1])
			}
		}
	}
	for _, p := range oddPrimes {
		for _, d := range s.squareCases(t, p) {
			// R squared has all of D above T^(g - 1), and each digit reaches one power further down.
			root := ok(impl.RootPart(p, d))
			left := ok(impl.SubtractPolys(p, d, ok(impl.MultiplyPolys(p, root, root))))
			if g := degreeOf(d) / 2; degreeOf(left) >= g {
				t.Errorf("%d: the root of %v begins with %v", p, d, root)
			}
			for _, n := range []int{1, 7, impl.MaxDigits} {
				checkRoot(t, p, d, n)
			}
		}
	}
}

// The guarantee at the end of chapter 10, where it says more than the promise.
func TestGuaranteeOfChapter10(t *testing.T) {
	s := &sampler{state: 551}
	for _, p := range primes {
		neighbours := 0
		for range 300 {
			list := s.actions(p, 2+int(s.below(impl.MaxPartials-1)), int(s.below(5)))
			overs, unders, code := impl.ConvergentsOf(p, list)
			if code != impl.ErrNone {
				continue
			}
			for k := 1; k < len(list); k++ {
				neighbours++
				// It is 1 for the first two, and has the other sign for each two that follow.
				want := plain{1, p - 1}[(k+1)%2 : (k+1)%2+1]
				if got := crosswise(p, overs[k], unders[k], overs[k-1], unders[k-1]); !got.equals(want) {
					t.Errorf("%d: %v has the convergents %v and %v, which make %v", p, list, overs, unders, got)
				}
			}
		}
		if neighbours < 500 {
			t.Errorf("%d: only %d neighbours are found", p, neighbours)
		}
	}
	for _, p := range oddPrimes {
		for _, d := range s.squareCases(t, p) {
			digits := must[[]int64](t)(impl.DigitsOfRoot(p, d, impl.MaxDigits))
			isZero := slices.Max(digits) == 0
			expect(t, "IsSquarePoly", results(impl.IsSquarePoly(p, d)), isZero)
		}
	}
}

// Promise 14: exponentials of sums are sums. So are logarithms.
func TestPromise14(t *testing.T) {
	s := &sampler{state: 552}
	ok := must[impl.Poly](t)
	for _, p := range primes {
		for _, e := range bothSeries() {
			found := 0
			for range 600 {
				x, y := s.small(p, 3), s.small(p, 3)
				across := ok(impl.AddPolys(p, ok(impl.MultiplyPolys(p, x.a, y.b)), ok(impl.MultiplyPolys(p, y.a, x.b))))
				both := quotient{across, ok(impl.MultiplyPolys(p, x.b, y.b))}
				for n := int64(1); n <= 4; n++ {
					if !e.fits(p, x, n) || !e.fits(p, y, n) || !e.fits(p, both, n) {
						continue
					}
					if n > 1 {
						found++
					}
					want := e.told(t, p, x, n).plus(p, 1, e.told(t, p, y, n))
					if !e.told(t, p, both, n).equals(p, want) {
						t.Errorf("%s for %d: that of %v and %v together is not the sum, up to %d", e.name, p, x, y, n)
					}
				}
			}
			if found < 100 {
				t.Errorf("%s for %d: only %d sums are found", e.name, p, found)
			}
		}
	}
}

// Promise 11: lines lead from desks to desks, and the console joins their outputs.
func TestPromise11(t *testing.T) {
	s := &sampler{state: 650}
	for round := range 300 {
		p := primes[round%4]
		d := impl.NewDesk()
		var lines []string
		joined := ""
		for range 1 + s.below(impl.MaxLines) {
			line := s.anyLine(p)
			if len(lines) == 0 {
				line = fmt.Sprint("prime ", p)
			}
			lines = append(lines, line)
			if line == "" {
				continue
			}
			var output string
			d, output = impl.RunLine(d, line)
			if !impl.IsDesk(d) || output == "" || strings.Contains(output, "\n") {
				t.Fatalf("%q leads to %s with the output %q", line, shown(d), output)
			}
			joined += output + "\n"
		}
		text := strings.Join(lines, "\n") + "\n"
		if len(text) > impl.MaxConsole {
			continue
		}
		if got := impl.Console(text); got != joined {
			t.Errorf("Console(%q) = %q, want %q", text, got, joined)
		}
		if got, accepted := impl.DeskAfter(text); got != d || !accepted {
			t.Errorf("DeskAfter(%q) = %s, %v, want %s", text, shown(got), accepted, shown(d))
		}
	}
}

// The guarantee at the end of chapter 11, where it says more than the promise.
func TestGuaranteeOfChapter11(t *testing.T) {
	s := &sampler{state: 651}
	for _, p := range primes {
		wrong := 0
		for _, d := range s.desks(t, p) {
			if !impl.IsDesk(d) {
				t.Fatalf("%s is no desk", shown(d))
			}
			for range 20 {
				line := s.anyLine(p)
				after, output := impl.RunLine(d, line)
				if !impl.IsDesk(after) {
					t.Errorf("%s: %q leads to %s", shown(d), line, shown(after))
				}
				if output == "error" {
					wrong++
					if after != d {
						t.Errorf("%s: %q is wrong, and leads to %s", shown(d), line, shown(after))
					}
				}
			}
		}
		if wrong < 1000 {
			t.Errorf("%d: only %d lines are wrong", p, wrong)
		}
	}
}
