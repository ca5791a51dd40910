package tests

import (
	"slices"
	"testing"

	"loop.example/g01245/impl"
)

// firstPlace returns the place of the first entry other than 0, and 6 if there is none.
func firstPlace(v impl.Row) int {
	i := 0
	for i < len(v) && v[i] == 0 {
		i++
	}
	return i
}

// isReduced reports whether a list tells a space as the document wants it.
func isReduced(list []impl.Row) bool {
	for i, v := range list {
		at := firstPlace(v)
		if at == len(v) || v[at] != 1 || i > 0 && at <= firstPlace(list[i-1]) {
			return false
		}
		for j, w := range list {
			if j != i && w[at] != 0 {
				return false
			}
		}
	}
	return true
}

// checkKernelOfPoly relies on this: a reduced list has as many vectors as the dimension of its space, and
// there is only one for each space.
func checkKernelOfPoly(t *testing.T, k square, a impl.Poly) {
	t.Helper()
	list, code := impl.KernelOfPoly(k.p, k.size(), k.s, a)
	if code != impl.ErrNone || !isReduced(list) || !k.leadsToZero(a, list) {
		t.Errorf("KernelOfPoly(%d, %d, %v, %v) = %v, %d", k.p, k.n, k.s, a, list, code)
	}
	for _, v := range list {
		if slices.Max(v[:]) >= byte(k.p) || slices.ContainsFunc(v[k.n:], func(c byte) bool { return c != 0 }) {
			t.Errorf("KernelOfPoly(%d, %d, %v, %v) has %v", k.p, k.n, k.s, a, v)
		}
	}
	if len(list) != k.kernelDimension(a) {
		t.Errorf("KernelOfPoly(%d, %d, %v, %v) has %d vectors", k.p, k.n, k.s, a, len(list))
	}
	if !isSmall(k.p, k.n) {
		return
	}
	count, all := 0, 1
	for _, v := range k.vectors() {
		if k.act(a, v) == (impl.Row{}) {
			count++
		}
	}
	for range list {
		all *= int(k.p)
	}
	if count != all {
		t.Errorf("KernelOfPoly(%d, %d, %v, %v) = %v, but there are %d", k.p, k.n, k.s, a, list, count)
	}
}

func TestKernelOfPoly(t *testing.T) {
	s := &sampler{state: 110}
	for _, p := range primes {
		for n := 1; n <= impl.MaxRows; n++ {
			for _, k := range mixedSquares(t, s, p, n) {
				for _, a := range polysFor(t, s, k) {
					checkKernelOfPoly(t, k, a)
				}
				expect(t, "KernelOfPoly 0", results(impl.KernelOfPoly(p, k.size(), k.s, impl.Poly{})), k.basis())
				for c := byte(1); c < byte(p); c++ {
					list, code := impl.KernelOfPoly(p, k.size(), k.s, impl.Poly{c})
					if len(list) > 0 || code != impl.ErrNone {
						t.Errorf("KernelOfPoly(%d, %d, %v, %d) = %v, %d", p, n, k.s, c, list, code)
					}
				}
			}
		}
	}
}

func TestKernelsOfPolysByHand(t *testing.T) {
	two := diagonal(5, 2, 3, 2)
	expect(t, "KernelOfPoly", results(impl.KernelOfPoly(5, 3, two.s, poly("13"))), []impl.Row{{1}, {0, 0, 1}})
	expect(t, "KernelOfPoly", results(impl.KernelOfPoly(5, 3, two.s, poly("12"))), []impl.Row{{0, 1}})
	// All rows are alike, so that differences of vectors of the basis are led to 0.
	row := impl.Row{1, 2, 3}
	want := []impl.Row{{1, 0, 6}, {0, 1, 6}}
	expect(t, "KernelOfPoly", results(impl.KernelOfPoly(7, 3, impl.Square{row, row, row}, poly("10"))), want)
	// The first two rows are multiples of the last one.
	want = []impl.Row{{1, 0, 2}, {0, 1, 3}}
	s := impl.Square{{2, 4, 1}, {3, 1, 4}, {4, 3, 2}}
	expect(t, "KernelOfPoly", results(impl.KernelOfPoly(5, 3, s, poly("10"))), want)
	// The last two rows are dependent, and the first one is 0.
	s = impl.Square{{}, {1, 1}, {1, 1}}
	expect(t, "KernelOfPoly", results(impl.KernelOfPoly(2, 3, s, poly("10"))), []impl.Row{{1}, {0, 1, 1}})
}

func TestSquareOfSkew(t *testing.T) {
	s := &sampler{state: 111}
	for _, p := range primes {
		for _, k := range towers(s, p) {
			skews := []impl.Skew{{}, one(), tau(impl.Poly{1}, 1), tau(impl.Poly{1}, k.degree()), k.unitSkew()}
			for n := -1; n <= impl.MaxSkew; n++ {
				skews = append(skews, s.skew(k, n), tau(s.unit(k), max(n, 0)))
			}
			for _, f := range skews {
				var want impl.Square
				for i := range k.degree() {
					x := k.value(f, monomial(i))
					copy(want[i][:], x[:impl.MaxRows])
				}
				expect(t, "SquareOfSkew", results(impl.SquareOfSkew(p, k.m, f)), want)
			}
		}
	}
}

func TestSquaresOfSkewsByHand(t *testing.T) {
	m := poly("111")
	expect(t, "SquareOfSkew", results(impl.SquareOfSkew(2, m, impl.Skew{})), impl.Square{})
	expect(t, "SquareOfSkew", results(impl.SquareOfSkew(2, m, one())), impl.Square{{1}, {0, 1}})
	// T T is T + 1.
	expect(t, "SquareOfSkew", results(impl.SquareOfSkew(2, m, tau(impl.Poly{1}, 1))), impl.Square{{1}, {1, 1}})
	expect(t, "SquareOfSkew", results(impl.SquareOfSkew(2, m, impl.Skew{{0, 1}})), impl.Square{{0, 1}, {1, 1}})
	expect(t, "SquareOfSkew", results(impl.SquareOfSkew(7, poly("15"), impl.Skew{{3}, {5}})), impl.Square{{1}})
}

func TestCompanionOf(t *testing.T) {
	s := &sampler{state: 112}
	for _, p := range primes {
		for n := 1; n <= impl.MaxRows; n++ {
			list := []impl.Poly{monomial(n), s.irreducible(p, n), s.monic(p, n), s.monic(p, n)}
			for i := range n + 1 {
				a := full(p, i)
				a[n] = 1
				list = append(list, a)
			}
			for _, a := range list {
				k := companions(p, a)
				expect(t, "CompanionOf", results(impl.CompanionOf(p, a)), k.s)
				expect(t, "InvariantFactors", results(impl.InvariantFactors(p, k.size(), k.s)), []impl.Poly{a})
			}
		}
	}
}

func TestCompanionsByHand(t *testing.T) {
	expect(t, "CompanionOf", results(impl.CompanionOf(3, poly("11"))), impl.Square{{2}})
	expect(t, "CompanionOf", results(impl.CompanionOf(3, poly("10"))), impl.Square{})
	expect(t, "CompanionOf", results(impl.CompanionOf(7, poly("1234"))), impl.Square{{0, 1}, {0, 0, 1}, {3, 4, 5}})
	want := impl.Square{{0, 1}, {0, 0, 1}, {0, 0, 0, 1}, {0, 0, 0, 0, 1}, {0, 0, 0, 0, 0, 1}, {4, 0, 0, 0, 0, 1}}
	expect(t, "CompanionOf", results(impl.CompanionOf(5, poly("1400001"))), want)
}

func TestAreSimilar(t *testing.T) {
	s := &sampler{state: 113}
	for _, p := range primes {
		for n := 1; n <= impl.MaxRows; n++ {
			list := knownSquares(t, s, p, n)
			for i, k := range list {
				mixed := s.mixed(k.square)
				expect(t, "AreSimilar", results(impl.AreSimilar(p, k.size(), k.s, mixed.s)), true)
				other := list[s.below(int64(len(list)))]
				want := slices.Equal(k.factors, other.factors)
				expect(t, "AreSimilar", results(impl.AreSimilar(p, k.size(), k.s, other.s)), want)
				next := list[(i+1)%len(list)]
				want = slices.Equal(k.factors, next.factors)
				expect(t, "AreSimilar", results(impl.AreSimilar(p, k.size(), next.s, k.s)), want)
			}
		}
	}
}

// Neither the characteristic polynomial nor the least one tells whether matrices are similar.
func TestNotSimilarWithTheSamePolynomials(t *testing.T) {
	x := monomial(1)
	for _, p := range primes {
		for _, pair := range [][2]square{
			{companions(p, x, x), companions(p, monomial(2))},
			{companions(p, x, x, monomial(2)), companions(p, monomial(2), monomial(2))},
			{companions(p, x, x, x, monomial(3)), companions(p, x, monomial(2), monomial(3))},
			{companions(p, monomial(3), monomial(3)), companions(p, x, monomial(2), monomial(3))},
		} {
			a, b := pair[0], pair[1]
			same := results(impl.CharacteristicOf(p, b.size(), b.s))
			expect(t, "CharacteristicOf", results(impl.CharacteristicOf(p, a.size(), a.s)), same[0])
			expect(t, "AreSimilar", results(impl.AreSimilar(p, a.size(), a.s, b.s)), false)
			expect(t, "AreSimilar", results(impl.AreSimilar(p, a.size(), b.s, a.s)), false)
			expect(t, "AreSimilar", results(impl.AreSimilar(p, a.size(), a.s, a.s)), true)
		}
		// Entries in the diagonal may stand in any order.
		expect(t, "AreSimilar", results(impl.AreSimilar(p, 3, diagonal(p, 1, 0, 0).s, diagonal(p, 0, 1, 0).s)), true)
		expect(t, "AreSimilar", results(impl.AreSimilar(p, 3, diagonal(p, 1, 0, 0).s, diagonal(p, 1, 1, 0).s)), false)
	}
}
