package tests

import (
	"slices"
	"testing"

	"loop.example/g01245/impl"
)

func TestConstantsOfChapter5(t *testing.T) {
	if impl.MaxRows != 6 {
		t.Errorf("limit %d", impl.MaxRows)
	}
}

func TestListsOfChapter5AreNew(t *testing.T) {
	k := diagonal(5, 2, 2, 3)
	factors, _ := impl.InvariantFactors(5, 3, k.s)
	kernel, _ := impl.KernelOfPoly(5, 3, k.s, impl.Poly{})
	clear(factors[:cap(factors)])
	clear(kernel[:cap(kernel)])
	expect(t, "InvariantFactors", results(impl.InvariantFactors(5, 3, k.s)), []impl.Poly{poly("13"), poly("101")})
	expect(t, "KernelOfPoly", results(impl.KernelOfPoly(5, 3, k.s, impl.Poly{})), k.basis())
}

func TestIsSquare(t *testing.T) {
	s := &sampler{state: 100}
	for _, p := range primes {
		for n := 1; n <= impl.MaxRows; n++ {
			for _, k := range mixedSquares(t, s, p, n) {
				if !impl.IsSquare(p, k.size(), k.s) {
					t.Errorf("IsSquare(%d, %d, %v) is false", p, n, k.s)
				}
			}
			for _, wrong := range noSquares(p, n) {
				if impl.IsSquare(p, int64(n), wrong) {
					t.Errorf("IsSquare(%d, %d, %v) is true", p, n, wrong)
				}
			}
			for _, p := range notPrimes {
				if impl.IsSquare(p, int64(n), impl.Square{}) || impl.IsSquare(p, int64(n), impl.Square{{1}}) {
					t.Errorf("IsSquare(%d, %d, ..) is true", p, n)
				}
			}
		}
		for _, n := range noSizes {
			if impl.IsSquare(p, n, impl.Square{}) || impl.IsSquare(p, n, impl.Square{{1}}) {
				t.Errorf("IsSquare(%d, %d, ..) is true", p, n)
			}
		}
	}
}

func TestApplySquare(t *testing.T) {
	s := &sampler{state: 101}
	for _, p := range primes {
		for n := 1; n <= impl.MaxRows; n++ {
			for _, k := range mixedSquares(t, s, p, n) {
				vectors := append(k.basis(), impl.Row{}, s.row(p, n), s.row(p, n))
				if n <= smallSizes[p] {
					vectors = k.vectors()
				}
				for _, a := range polysFor(t, s, k) {
					for _, v := range vectors {
						expect(t, "ApplySquare", results(impl.ApplySquare(p, k.size(), k.s, a, v)), k.act(a, v))
					}
				}
			}
		}
	}
}

func TestApplySquareByHand(t *testing.T) {
	// The rows tell where the vectors of the basis are led.
	s := impl.Square{{1, 2}, {0, 1}}
	expect(t, "ApplySquare", results(impl.ApplySquare(3, 2, s, poly("10"), impl.Row{1})), impl.Row{1, 2})
	expect(t, "ApplySquare", results(impl.ApplySquare(3, 2, s, poly("10"), impl.Row{0, 1})), impl.Row{0, 1})
	expect(t, "ApplySquare", results(impl.ApplySquare(3, 2, s, poly("10"), impl.Row{1, 1})), impl.Row{1, 0})
	expect(t, "ApplySquare", results(impl.ApplySquare(3, 2, s, poly("100"), impl.Row{1})), impl.Row{1, 1})
	expect(t, "ApplySquare", results(impl.ApplySquare(3, 2, s, poly("102"), impl.Row{1})), impl.Row{0, 1})
	for _, p := range primes {
		all := impl.Row{1, 1, 1, 1, 1, 1}
		expect(t, "ApplySquare 0", results(impl.ApplySquare(p, 6, impl.Square{all}, poly("0"), all)), impl.Row{})
		expect(t, "ApplySquare 1", results(impl.ApplySquare(p, 6, impl.Square{all}, poly("1"), all)), all)
		expect(t, "ApplySquare T", results(impl.ApplySquare(p, 6, impl.Square{all}, poly("10"), all)), all)
		expect(t, "ApplySquare T^63", results(impl.ApplySquare(p, 6, impl.Square{all}, monomial(63), all)), all)
	}
	// 36 and 36 and so on, six times, is 216, which is 6 modulo 7.
	great := impl.Row{6, 6, 6, 6, 6, 6}
	six := impl.Square{great, great, great, great, great, great}
	expect(t, "ApplySquare", results(impl.ApplySquare(7, 6, six, poly("10"), great)), great)
}

func TestCharacteristicOf(t *testing.T) {
	s := &sampler{state: 102}
	for _, p := range primes {
		for n := 1; n <= impl.MaxRows; n++ {
			for _, k := range mixedSquares(t, s, p, n) {
				expect(t, "CharacteristicOf", results(impl.CharacteristicOf(p, k.size(), k.s)), k.characteristic(t))
			}
		}
	}
}

func TestCharacteristicByHand(t *testing.T) {
	expect(t, "CharacteristicOf", results(impl.CharacteristicOf(3, 1, impl.Square{{2}})), poly("11"))
	// T T - 5 T - 2
	two := impl.Square{{1, 2}, {3, 4}}
	expect(t, "CharacteristicOf", results(impl.CharacteristicOf(5, 2, two)), poly("103"))
	expect(t, "CharacteristicOf", results(impl.CharacteristicOf(7, 2, two)), poly("125"))
	// A cycle of three takes T to the power 3 to 1.
	cycle := impl.Square{{0, 1}, {0, 0, 1}, {1}}
	for _, p := range primes {
		expect(t, "CharacteristicOf", results(impl.CharacteristicOf(p, 3, cycle)), impl.Poly{byte(p - 1), 0, 0, 1})
	}
	// The trace is 9, as is that of the minors with two rows, and the determinant is -3.
	three := impl.Square{{1, 2, 3}, {4, 5, 6}, {0, 1, 3}}
	expect(t, "CharacteristicOf", results(impl.CharacteristicOf(7, 3, three)), poly("1523"))
}

// isSmall tells whether all vectors and polynomials may be tried.
func isSmall(p int64, n int) bool {
	return n <= smallSizes[p]
}

func TestLeastOf(t *testing.T) {
	s := &sampler{state: 103}
	for _, p := range primes {
		for n := 1; n <= impl.MaxRows; n++ {
			for _, k := range mixedSquares(t, s, p, n) {
				least, code := impl.LeastOf(p, k.size(), k.s)
				if isSmall(p, n) && least != k.least(k.vectors()) {
					t.Errorf("LeastOf(%d, %d, %v) = %v, %d", p, n, k.s, least, code)
				}
				if code != impl.ErrNone || !k.isLeast(t, least, k.basis()) {
					t.Errorf("LeastOf(%d, %d, %v) = %v, %d", p, n, k.s, least, code)
				}
			}
			for _, k := range knownSquares(t, s, p, n) {
				expect(t, "LeastOf", results(impl.LeastOf(p, k.size(), k.s)), k.factors[len(k.factors)-1])
			}
		}
	}
}

func TestOrderOfVector(t *testing.T) {
	s := &sampler{state: 104}
	for _, p := range primes {
		for n := 1; n <= impl.MaxRows; n++ {
			for _, k := range mixedSquares(t, s, p, n) {
				vectors := append(k.basis(), impl.Row{}, s.row(p, n), s.row(p, n), s.row(p, n))
				if isSmall(p, n) {
					vectors = k.vectors()
				}
				for _, v := range vectors {
					order, code := impl.OrderOfVector(p, k.size(), k.s, v)
					if isSmall(p, n) && order != k.least([]impl.Row{v}) {
						t.Errorf("OrderOfVector(%d, %d, %v, %v) = %v, %d", p, n, k.s, v, order, code)
					}
					if code != impl.ErrNone || !k.isLeast(t, order, []impl.Row{v}) {
						t.Errorf("OrderOfVector(%d, %d, %v, %v) = %v, %d", p, n, k.s, v, order, code)
					}
				}
				expect(t, "OrderOfVector 0", results(impl.OrderOfVector(p, k.size(), k.s, impl.Row{})), impl.Poly{1})
			}
		}
	}
}

func TestInvariantFactorsThatAreKnown(t *testing.T) {
	s := &sampler{state: 105}
	for _, p := range primes {
		for n := 1; n <= impl.MaxRows; n++ {
			for _, k := range knownSquares(t, s, p, n) {
				expect(t, "InvariantFactors", results(impl.InvariantFactors(p, k.size(), k.s)), k.factors)
			}
			for c := range byte(p) {
				one := multipleOfOne(p, n, c)
				want := slices.Repeat([]impl.Poly{plain{(p - int64(c)) % p, 1}.poly(t)}, n)
				expect(t, "InvariantFactors", results(impl.InvariantFactors(p, one.size(), one.s)), want)
			}
		}
	}
}

// checkInvariantFactors relies on this: what a power of an irreducible polynomial leads to 0 has
// one part for each of the invariant factors, of the degree of the divisor of this and the power.
// Where they divide one another and all these dimensions are right, no other list can be.
func checkInvariantFactors(t *testing.T, k square) {
	t.Helper()
	list, code := impl.InvariantFactors(k.p, k.size(), k.s)
	if code != impl.ErrNone {
		t.Fatalf("InvariantFactors(%d, %d, %v): code %d", k.p, k.n, k.s, code)
	}
	for i, d := range list {
		n := degreeOf(d)
		if n < 1 || d[n] != 1 || i > 0 && restBy(k.p, d, list[i-1]) != (impl.Poly{}) {
			t.Errorf("InvariantFactors(%d, %d, %v) = %v, which do not divide one another", k.p, k.n, k.s, list)
			return
		}
	}
	if product(t, k.p, list...) != k.characteristic(t) {
		t.Errorf("InvariantFactors(%d, %d, %v) = %v, which have another product", k.p, k.n, k.s, list)
	}
	for _, f := range factorsByTrying(t, k.p, k.characteristic(t)) {
		for times := 1; times <= k.n; times++ {
			want := 0
			for _, d := range list {
				want += degreeOf(f.Prime) * min(times, powerIn(t, k.p, d, f.Prime))
			}
			if k.kernelDimension(plainPower(k.p, f.Prime, times)) != want {
				t.Errorf("InvariantFactors(%d, %d, %v) = %v, which do not fit the kernels", k.p, k.n, k.s, list)
			}
		}
	}
}

// powerIn returns the greatest power by which an irreducible polynomial divides a.
func powerIn(t *testing.T, p int64, a, prime impl.Poly) int {
	t.Helper()
	for _, f := range factorsByTrying(t, p, a) {
		if f.Prime == prime {
			return int(f.Power)
		}
	}
	return 0
}

func TestInvariantFactorsFitTheKernels(t *testing.T) {
	s := &sampler{state: 106}
	for _, p := range primes {
		for n := 1; n <= impl.MaxRows; n++ {
			for _, k := range mixedSquares(t, s, p, n) {
				checkInvariantFactors(t, k)
			}
		}
	}
}

// allSquares calls visit for all matrices of a size.
func allSquares(p int64, n int, visit func(square)) {
	k := square{p: p, n: n}
	for {
		visit(k)
		at := 0
		for at < n*n && k.s[at/n][at%n] == byte(p-1) {
			k.s[at/n][at%n] = 0
			at++
		}
		if at == n*n {
			return
		}
		k.s[at/n][at%n]++
	}
}

func TestAllSmallSquares(t *testing.T) {
	for _, p := range primes {
		for n := 1; n <= 2 || p == 2 && n == 3; n++ {
			count := 0
			allSquares(p, n, func(k square) {
				count++
				checkInvariantFactors(t, k)
				expect(t, "CharacteristicOf", results(impl.CharacteristicOf(p, k.size(), k.s)), k.characteristic(t))
				// Few are enough here, as vectors of all kinds are tried elsewhere.
				if count%5 == 0 {
					expect(t, "LeastOf", results(impl.LeastOf(p, k.size(), k.s)), k.least(k.basis()))
					checkGenerator(t, k)
				}
			})
		}
	}
}

// checkGenerator tries all vectors in order.
func checkGenerator(t *testing.T, k square) {
	t.Helper()
	vectors := k.vectors()
	at := slices.IndexFunc(vectors, k.isGenerator)
	expect(t, "IsCyclicModule", results(impl.IsCyclicModule(k.p, k.size(), k.s)), at >= 0)
	got := results(impl.ModuleGenerator(k.p, k.size(), k.s))
	if at < 0 {
		expectCode(t, "ModuleGenerator", got, impl.ErrNotFound)
		return
	}
	expect(t, "ModuleGenerator", got, vectors[at])
}

func TestModuleGenerator(t *testing.T) {
	s := &sampler{state: 107}
	greatest := map[int64]int{2: 6, 3: 5, 5: 4, 7: 3}
	for _, p := range primes {
		for n := 1; n <= greatest[p]; n++ {
			for _, k := range mixedSquares(t, s, p, n) {
				checkGenerator(t, k)
			}
		}
	}
}

// Where it is known that there is a generator, the trial of all vectors ends at the first one.
func TestGeneratorsOfGreaterModules(t *testing.T) {
	s := &sampler{state: 108}
	for _, p := range primes {
		for n := 1; n <= impl.MaxRows; n++ {
			for _, k := range knownSquares(t, s, p, n) {
				cyclic := len(k.factors) == 1
				expect(t, "IsCyclicModule", results(impl.IsCyclicModule(p, k.size(), k.s)), cyclic)
				got := results(impl.ModuleGenerator(p, k.size(), k.s))
				if cyclic {
					expect(t, "ModuleGenerator", got, k.firstGenerator())
				} else {
					expectCode(t, "ModuleGenerator", got, impl.ErrNotFound)
				}
			}
		}
	}
}

func TestGeneratorsByHand(t *testing.T) {
	// Different entries in the diagonal ask for all entries of a generator.
	two := diagonal(7, 0, 1, 2, 3, 4, 5)
	expect(t, "ModuleGenerator", results(impl.ModuleGenerator(7, 6, two.s)), impl.Row{1, 1, 1, 1, 1, 1})
	two = diagonal(5, 4, 3, 2, 1, 0)
	expect(t, "ModuleGenerator", results(impl.ModuleGenerator(5, 5, two.s)), impl.Row{1, 1, 1, 1, 1})
	for _, p := range primes {
		for n := 1; n <= impl.MaxRows; n++ {
			// The powers of T go from the front to the back, and get lost there, if not brought back.
			nothing, cycle := companions(p, monomial(n)), companions(p, plainOf(monomial(n)).plus(p, -1, plain{1}).poly(t))
			expect(t, "ModuleGenerator", results(impl.ModuleGenerator(p, cycle.size(), nothing.s)), impl.Row{1})
			var last impl.Row
			last[n-1] = 1
			expect(t, "ModuleGenerator", results(impl.ModuleGenerator(p, cycle.size(), cycle.s)), last)
			for c := range byte(p) {
				one := multipleOfOne(p, n, c)
				expect(t, "IsCyclicModule", results(impl.IsCyclicModule(p, one.size(), one.s)), n == 1)
			}
		}
	}
}
