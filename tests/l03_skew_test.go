package tests

import (
	"slices"
	"testing"

	"loop.example/g01245/impl"
)

func TestConstantsOfChapter3(t *testing.T) {
	if impl.MaxSkew != 7 || len(impl.Skew{}) != impl.MaxSkew+1 {
		t.Errorf("limits %d, %d", impl.MaxSkew, len(impl.Skew{}))
	}
}

func TestIsField(t *testing.T) {
	for _, p := range primes {
		for _, m := range moduli(p, 4, 2401) {
			if impl.IsField(p, m) != isPrimePoly(p, m) {
				t.Errorf("IsField(%d, %v) is wrong", p, m)
			}
			if impl.IsField(p+1, m) && p+1 != 3 {
				t.Errorf("IsField(%d, %v)", p+1, m)
			}
			for c := byte(2); c < byte(p); c++ {
				if impl.IsField(p, product(t, p, m, impl.Poly{c})) {
					t.Errorf("IsField(%d, %d times %v)", p, c, m)
				}
			}
		}
	}
	if !impl.IsField(2, poly("111")) || impl.IsField(2, poly("101")) || !impl.IsField(3, poly("101")) || impl.IsField(5, poly("101")) {
		t.Errorf("IsField is wrong for T^2 + T + 1, or for T^2 + 1")
	}
}

func TestWhatIsNoField(t *testing.T) {
	for _, p := range primes {
		for _, m := range noFields(p) {
			if impl.IsField(p, m) || impl.IsSkew(p, m, impl.Skew{}) {
				t.Errorf("IsField(%d, %v)", p, m)
			}
		}
	}
	for _, p := range notPrimes {
		for _, m := range []impl.Poly{{}, {1}, {0, 1}, {1, 1, 1}, {1, 1, 0, 1}, {1, 0, 1}} {
			if impl.IsField(p, m) || impl.IsSkew(p, m, impl.Skew{}) {
				t.Errorf("IsField(%d, %v)", p, m)
			}
		}
	}
}

func TestIsSkew(t *testing.T) {
	s := &sampler{state: 41}
	for _, p := range primes {
		for _, k := range towers(s, p) {
			for n := -1; n <= impl.MaxSkew; n++ {
				if !impl.IsSkew(p, k.m, s.skew(k, n)) {
					t.Errorf("%d, %v: IsSkew denies a skew polynomial of the degree %d", p, k.m, n)
				}
			}
			for i := range impl.MaxSkew + 1 {
				f := s.skew(k, impl.MaxSkew)
				f[i] = full(p, k.degree()-1)
				if !impl.IsSkew(p, k.m, f) {
					t.Errorf("%d, %v: IsSkew denies a great residue at %d", p, k.m, i)
				}
				for _, x := range noResidues(k) {
					f[i] = x
					if impl.IsSkew(p, k.m, f) {
						t.Errorf("%d, %v: IsSkew takes %v at %d", p, k.m, x, i)
					}
				}
			}
		}
	}
}

func TestDegreesAndSumsOfSkews(t *testing.T) {
	s := &sampler{state: 42}
	for _, p := range primes {
		for _, k := range towers(s, p) {
			for n := -1; n <= impl.MaxSkew; n++ {
				f := s.skew(k, n)
				expect(t, "SkewDegree", results(impl.SkewDegree(p, k.m, f)), int64(n))
				for low := -1; low <= impl.MaxSkew; low++ {
					g := s.skew(k, low)
					want := k.sum(long(f), long(g)).short(t)
					expect(t, "AddSkews", results(impl.AddSkews(p, k.m, f, g)), want)
				}
				opposite := k.product(tau(impl.Poly{byte(p - 1)}, 0), f).short(t)
				expect(t, "AddSkews", results(impl.AddSkews(p, k.m, f, opposite)), impl.Skew{})
			}
			expect(t, "SkewDegree", results(impl.SkewDegree(p, k.m, one())), int64(0))
		}
	}
}

func TestMultiplySkews(t *testing.T) {
	s := &sampler{state: 43}
	for _, p := range primes {
		for _, k := range towers(s, p) {
			for n := -1; n <= impl.MaxSkew; n++ {
				for low := -1; low <= impl.MaxSkew; low++ {
					f, g := s.skew(k, n), s.skew(k, low)
					got := results(impl.MultiplySkews(p, k.m, f, g))
					if n+low > impl.MaxSkew {
						expectCode(t, "MultiplySkews", got, impl.ErrLimit)
					} else {
						expect(t, "MultiplySkews", got, k.product(f, g).short(t))
					}
				}
				f := s.skew(k, n)
				expect(t, "MultiplySkews by 1", results(impl.MultiplySkews(p, k.m, f, one())), f)
				expect(t, "MultiplySkews by 1", results(impl.MultiplySkews(p, k.m, one(), f)), f)
				expect(t, "MultiplySkews by 0", results(impl.MultiplySkews(p, k.m, f, impl.Skew{})), impl.Skew{})
				expect(t, "MultiplySkews by 0", results(impl.MultiplySkews(p, k.m, impl.Skew{}, f)), impl.Skew{})
			}
		}
	}
}

func TestProductsByHand(t *testing.T) {
	// For 4 elements the Frobenius of T is T + 1.
	m, x := poly("111"), poly("10")
	expect(t, "MultiplySkews", results(impl.MultiplySkews(2, m, tau(poly("1"), 1), tau(x, 0))), tau(poly("11"), 1))
	expect(t, "MultiplySkews", results(impl.MultiplySkews(2, m, tau(x, 0), tau(poly("1"), 1))), tau(x, 1))
	// For 9 elements, T T being -1, the Frobenius of T is -T.
	m = poly("101")
	expect(t, "MultiplySkews", results(impl.MultiplySkews(3, m, tau(x, 1), tau(x, 2))), tau(poly("1"), 3))
	expect(t, "MultiplySkews", results(impl.MultiplySkews(3, m, tau(x, 2), tau(x, 1))), tau(poly("2"), 3))
	for i := range impl.MaxSkew + 1 {
		got := results(impl.MultiplySkews(7, poly("10"), tau(poly("3"), i), tau(poly("5"), impl.MaxSkew-i)))
		expect(t, "MultiplySkews", got, tau(poly("1"), impl.MaxSkew))
	}
	// What tau makes of T depends on the field.
	for text, want := range map[string]string{"10": "0", "11": "1", "111": "11", "1011": "100", "10011": "100"} {
		x := restBy(2, poly("10"), poly(text))
		got := results(impl.MultiplySkews(2, poly(text), tau(poly("1"), 1), tau(x, 0)))
		expect(t, "MultiplySkews for "+text, got, tau(poly(want), 1))
	}
}

// All products of the degree 1 in a small field are seen to act one after the other at all
// residues.
func TestValuesOfProducts(t *testing.T) {
	for _, k := range []*tower{towerOf(2, poly("111")), towerOf(3, poly("10")), towerOf(2, poly("1011"))} {
		k.monicSkews(1, func(f impl.Skew) {
			k.monicSkews(2, func(g impl.Skew) {
				product, code := impl.MultiplySkews(k.p, k.m, f, g)
				for _, x := range k.all {
					y, first := impl.ValueOfSkew(k.p, k.m, g, x)
					want, second := impl.ValueOfSkew(k.p, k.m, f, y)
					got, third := impl.ValueOfSkew(k.p, k.m, product, x)
					if got != want || code != 0 || first != 0 || second != 0 || third != 0 {
						t.Fatalf("%d, %v: %v and %v do not act one after the other", k.p, k.m, f, g)
					}
				}
			})
		})
	}
}

func TestPowerOfSkew(t *testing.T) {
	s := &sampler{state: 44}
	for _, p := range primes {
		for _, k := range towers(s, p) {
			for n := -1; n <= impl.MaxSkew; n++ {
				f := s.skew(k, n)
				power := long(one())
				for times := range int64(20) {
					got := results(impl.PowerOfSkew(p, k.m, f, times))
					if int64(n)*times > impl.MaxSkew {
						expectCode(t, "PowerOfSkew", got, impl.ErrLimit)
						continue
					}
					expect(t, "PowerOfSkew", got, power.short(t))
					power = k.product(power.short(t), f)
				}
				for _, times := range []int64{-1, 1001} {
					expectCode(t, "PowerOfSkew", results(impl.PowerOfSkew(p, k.m, f, times)), impl.ErrRange)
				}
			}
		}
	}
}

func TestGreatPowersOfSkews(t *testing.T) {
	s := &sampler{state: 45}
	for _, p := range primes {
		for _, k := range towers(s, p) {
			x := s.unit(k)
			power := impl.Poly{1}
			for range 1000 {
				power = k.times(power, x)
			}
			expect(t, "PowerOfSkew", results(impl.PowerOfSkew(p, k.m, tau(x, 0), 1000)), tau(power, 0))
			before := k.times(power, k.inverse(x))
			expect(t, "PowerOfSkew", results(impl.PowerOfSkew(p, k.m, tau(x, 0), 999)), tau(before, 0))
			expect(t, "PowerOfSkew of 0", results(impl.PowerOfSkew(p, k.m, impl.Skew{}, 1000)), impl.Skew{})
			expect(t, "PowerOfSkew of 0", results(impl.PowerOfSkew(p, k.m, impl.Skew{}, 0)), one())
			expect(t, "PowerOfSkew of 1", results(impl.PowerOfSkew(p, k.m, one(), 1000)), one())
			expectCode(t, "PowerOfSkew", results(impl.PowerOfSkew(p, k.m, tau(x, 1), 1000)), impl.ErrLimit)
		}
	}
}

func TestDivisionsOfSkews(t *testing.T) {
	s := &sampler{state: 46}
	for _, p := range primes {
		for _, k := range towers(s, p) {
			for n := -1; n <= impl.MaxSkew; n++ {
				for low := range impl.MaxSkew + 1 {
					f, g := s.skew(k, n), s.skew(k, low)
					checkDivisions(t, k, f, g)
					if n >= low {
						checkExactDivisions(t, k, s.skew(k, n-low), g)
					}
				}
				f := s.skew(k, n)
				expectCode(t, "DivideRight", results(impl.DivideRight(p, k.m, f, impl.Skew{})), impl.ErrState)
				expectCode(t, "DivideLeft", results(impl.DivideLeft(p, k.m, f, impl.Skew{})), impl.ErrState)
				expect(t, "DivideRight by 1", results(impl.DivideRight(p, k.m, f, one())), f, impl.Skew{})
				expect(t, "DivideLeft by 1", results(impl.DivideLeft(p, k.m, f, one())), f, impl.Skew{})
			}
		}
	}
}

// checkDivisions multiplies out again: there are no other quotients and rests like these.
func checkDivisions(t *testing.T, k *tower, f, g impl.Skew) {
	t.Helper()
	low := long(g).degree()
	q, r, code := impl.DivideRight(k.p, k.m, f, g)
	if code != impl.ErrNone || long(r).degree() >= low || k.sum(k.product(q, g), long(r)) != long(f) {
		t.Errorf("DivideRight(%d, %v, %v, %v) = %v, %v, %d", k.p, k.m, f, g, q, r, code)
	}
	if long(f).degree() < low && (q != (impl.Skew{}) || r != f) {
		t.Errorf("DivideRight by a greater degree = %v, %v", q, r)
	}
	q, r, code = impl.DivideLeft(k.p, k.m, f, g)
	if code != impl.ErrNone || long(r).degree() >= low || k.sum(k.product(g, q), long(r)) != long(f) {
		t.Errorf("DivideLeft(%d, %v, %v, %v) = %v, %v, %d", k.p, k.m, f, g, q, r, code)
	}
	if long(f).degree() < low && (q != (impl.Skew{}) || r != f) {
		t.Errorf("DivideLeft by a greater degree = %v, %v", q, r)
	}
}

func checkExactDivisions(t *testing.T, k *tower, q, g impl.Skew) {
	t.Helper()
	f := k.product(q, g).short(t)
	expect(t, "DivideRight", results(impl.DivideRight(k.p, k.m, f, g)), q, impl.Skew{})
	f = k.product(g, q).short(t)
	expect(t, "DivideLeft", results(impl.DivideLeft(k.p, k.m, f, g)), q, impl.Skew{})
}

func TestDivisionsByHand(t *testing.T) {
	m, x := poly("111"), poly("10")
	unit, divisor := tau(poly("1"), 1), tau(x, 0)
	// tau = (c tau) T means c (T + 1) = 1, and tau = T (c tau) means c T = 1.
	expect(t, "DivideRight", results(impl.DivideRight(2, m, unit, divisor)), tau(x, 1), impl.Skew{})
	expect(t, "DivideLeft", results(impl.DivideLeft(2, m, unit, divisor)), tau(poly("11"), 1), impl.Skew{})
	// T tau^2 = (c tau) tau means c = T, and = tau (c tau) means c to the power 2 = T.
	expect(t, "DivideRight", results(impl.DivideRight(2, m, tau(x, 2), unit)), tau(x, 1), impl.Skew{})
	expect(t, "DivideLeft", results(impl.DivideLeft(2, m, tau(x, 2), unit)), tau(poly("11"), 1), impl.Skew{})
}

func TestRightDivisorsAndLeftMultiples(t *testing.T) {
	s := &sampler{state: 47}
	for _, p := range primes {
		for _, k := range towers(s, p) {
			for n := range impl.MaxSkew + 1 {
				for low := range impl.MaxSkew + 1 {
					checkCommon(t, k, s.skew(k, n), s.skew(k, low))
					c := s.skew(k, int(s.below(int64(min(n, low)+1))))
					f := k.product(s.skew(k, n-long(c).degree()), c).short(t)
					g := k.product(s.skew(k, low-long(c).degree()), c).short(t)
					checkCommon(t, k, f, g)
				}
			}
		}
	}
}

// checkCommon relies on this: the degrees of the right divisor and of the left multiple are those
// of f and g together.
func checkCommon(t *testing.T, k *tower, f, g impl.Skew) {
	t.Helper()
	n := k.divisorDegree(f, g)
	both := long(f).degree() + long(g).degree()
	divisor, code := impl.RightDivisor(k.p, k.m, f, g)
	if code != impl.ErrNone || long(divisor).degree() != n || divisor[n] != (impl.Poly{1}) || !k.divides(divisor, f) || !k.divides(divisor, g) {
		t.Errorf("RightDivisor(%d, %v, %v, %v) = %v, %d", k.p, k.m, f, g, divisor, code)
	}
	multiple, code := impl.LeftMultiple(k.p, k.m, f, g)
	if both-n > impl.MaxSkew {
		expectCode(t, "LeftMultiple", []any{multiple, code}, impl.ErrLimit)
		return
	}
	if code != impl.ErrNone || long(multiple).degree() != both-n || multiple[both-n] != (impl.Poly{1}) || !k.divides(f, multiple) || !k.divides(g, multiple) {
		t.Errorf("LeftMultiple(%d, %v, %v, %v) = %v, %d", k.p, k.m, f, g, multiple, code)
	}
}

// In small fields all monic skew polynomials are tried.
func TestGreatestDivisorsAndLeastMultiples(t *testing.T) {
	s := &sampler{state: 48}
	for _, k := range []*tower{towerOf(2, poly("11")), towerOf(2, poly("111")), towerOf(3, poly("10"))} {
		for range 30 {
			c := s.skew(k, int(s.below(3))-1)
			if c == (impl.Skew{}) {
				c = one()
			}
			f := k.product(s.skew(k, int(s.below(3))), c).short(t)
			g := k.product(s.skew(k, int(s.below(2))), c).short(t)
			divisor := must[impl.Skew](t)(impl.RightDivisor(k.p, k.m, f, g))
			multiple := must[impl.Skew](t)(impl.LeftMultiple(k.p, k.m, f, g))
			for n := long(divisor).degree(); n <= long(g).degree(); n++ {
				k.monicSkews(n, func(h impl.Skew) {
					if (k.divides(h, f) && k.divides(h, g)) != (h == divisor) {
						t.Errorf("RightDivisor(%d, %v, %v, %v) = %v, and there is %v", k.p, k.m, f, g, divisor, h)
					}
				})
			}
			for n := range long(multiple).degree() + 1 {
				k.monicSkews(n, func(h impl.Skew) {
					if (k.divides(f, h) && k.divides(g, h)) != (h == multiple) {
						t.Errorf("LeftMultiple(%d, %v, %v, %v) = %v, and there is %v", k.p, k.m, f, g, multiple, h)
					}
				})
			}
		}
	}
}

func TestCommonWithZeros(t *testing.T) {
	s := &sampler{state: 49}
	for _, p := range primes {
		for _, k := range towers(s, p) {
			zero := impl.Skew{}
			for n := range impl.MaxSkew + 1 {
				f := s.skew(k, n)
				monic := k.product(tau(k.inverse(f[n]), 0), f).short(t)
				expect(t, "RightDivisor with 0", results(impl.RightDivisor(p, k.m, f, zero)), monic)
				expect(t, "RightDivisor with 0", results(impl.RightDivisor(p, k.m, zero, f)), monic)
				expect(t, "RightDivisor with itself", results(impl.RightDivisor(p, k.m, f, f)), monic)
				expect(t, "RightDivisor with a residue", results(impl.RightDivisor(p, k.m, f, tau(s.unit(k), 0))), one())
				expectCode(t, "LeftMultiple with 0", results(impl.LeftMultiple(p, k.m, f, zero)), impl.ErrState)
				expectCode(t, "LeftMultiple with 0", results(impl.LeftMultiple(p, k.m, zero, f)), impl.ErrState)
				expect(t, "LeftMultiple with itself", results(impl.LeftMultiple(p, k.m, f, f)), monic)
				expect(t, "LeftMultiple with a residue", results(impl.LeftMultiple(p, k.m, f, tau(s.unit(k), 0))), monic)
				expect(t, "LeftMultiple with a residue", results(impl.LeftMultiple(p, k.m, tau(s.unit(k), 0), f)), monic)
			}
			expectCode(t, "RightDivisor of 0 and 0", results(impl.RightDivisor(p, k.m, zero, zero)), impl.ErrState)
			expectCode(t, "LeftMultiple of 0 and 0", results(impl.LeftMultiple(p, k.m, zero, zero)), impl.ErrState)
			expect(t, "RightDivisor of 1 and 1", results(impl.RightDivisor(p, k.m, one(), one())), one())
			expect(t, "LeftMultiple of 1 and 1", results(impl.LeftMultiple(p, k.m, one(), one())), one())
		}
	}
}

// tau^3 - 1 and tau^4 (or tau^5) have no divisor in common but 1.
func TestLeftMultiplesAtMaxSkew(t *testing.T) {
	s := &sampler{state: 50}
	for _, p := range primes {
		for _, k := range towers(s, p) {
			f := tau(impl.Poly{1}, 3)
			f[0] = impl.Poly{byte(p - 1)}
			want := tau(impl.Poly{1}, impl.MaxSkew)
			want[4] = impl.Poly{byte(p - 1)}
			power := tau(s.unit(k), 4)
			expect(t, "LeftMultiple", results(impl.LeftMultiple(p, k.m, f, power)), want)
			expect(t, "LeftMultiple", results(impl.LeftMultiple(p, k.m, power, f)), want)
			power = tau(s.unit(k), 5)
			expectCode(t, "LeftMultiple", results(impl.LeftMultiple(p, k.m, f, power)), impl.ErrLimit)
			expectCode(t, "LeftMultiple", results(impl.LeftMultiple(p, k.m, power, f)), impl.ErrLimit)
		}
	}
}

func TestValueOfSkew(t *testing.T) {
	s := &sampler{state: 51}
	for _, p := range primes {
		for _, k := range towers(s, p) {
			for n := -1; n <= impl.MaxSkew; n++ {
				f := s.skew(k, n)
				for _, x := range []impl.Poly{{}, {1}, full(p, k.degree()-1), s.residue(k), s.unit(k)} {
					expect(t, "ValueOfSkew", results(impl.ValueOfSkew(p, k.m, f, x)), k.value(f, x))
				}
			}
			for _, x := range k.all[:min(50, len(k.all))] {
				expect(t, "ValueOfSkew of 1", results(impl.ValueOfSkew(p, k.m, one(), x)), x)
				expect(t, "ValueOfSkew of 0", results(impl.ValueOfSkew(p, k.m, impl.Skew{}, x)), impl.Poly{})
				expect(t, "ValueOfSkew of tau", results(impl.ValueOfSkew(p, k.m, tau(impl.Poly{1}, 1), x)), k.frobenius[x])
			}
		}
	}
}

// kernelSamples returns skew polynomials with kernels of all dimensions.
func kernelSamples(t *testing.T, s *sampler, k *tower) []impl.Skew {
	t.Helper()
	list := []impl.Skew{{}, one(), k.unitSkew(), tau(s.unit(k), impl.MaxSkew)}
	for n := range impl.MaxSkew + 1 {
		list = append(list, s.skew(k, n))
	}
	for n := range impl.MaxSkew - k.degree() + 1 {
		list = append(list, k.product(s.skew(k, n), k.unitSkew()).short(t))
	}
	for n := 1; n < k.degree(); n++ {
		var f longSkew
		f[0] = impl.Poly{1}
		for range n {
			// tau - y^(p - 1) has the multiples of y by numbers as its kernel.
			y := s.unit(k)
			step := tau(impl.Poly{1}, 1)
			step[0] = k.opposite(k.times(k.frobenius[y], k.inverse(y)))
			f = k.product(step, f.short(t))
		}
		list = append(list, f.short(t))
	}
	return list
}

func TestKernelOfSkew(t *testing.T) {
	s := &sampler{state: 52}
	for _, p := range primes {
		for _, k := range towers(s, p) {
			for _, f := range kernelSamples(t, s, k) {
				checkKernel(t, k, f)
			}
		}
	}
	for _, k := range []*tower{towerOf(2, poly("111")), towerOf(2, poly("1011")), towerOf(3, poly("101"))} {
		for n := range 3 {
			k.monicSkews(n, func(f impl.Skew) { checkKernel(t, k, f) })
		}
	}
}

// checkKernel relies on this: a space has only one reduced list.
func checkKernel(t *testing.T, k *tower, f impl.Skew) {
	t.Helper()
	size := 0
	for _, x := range k.all {
		if k.value(f, x) == (impl.Poly{}) {
			size++
		}
	}
	list, code := impl.KernelOfSkew(k.p, k.m, f)
	if code != impl.ErrNone || len(list) != k.dimension(size) {
		t.Fatalf("KernelOfSkew(%d, %v, %v) = %v, %d; there are %d residues in it", k.p, k.m, f, list, code, size)
	}
	for i, x := range list {
		n := degreeOf(x)
		if n < 0 || x[n] != 1 || i > 0 && degreeOf(list[i-1]) <= n || k.value(f, x) != (impl.Poly{}) {
			t.Errorf("KernelOfSkew(%d, %v, %v) = %v", k.p, k.m, f, list)
		}
		for j, y := range list {
			if j != i && y[max(n, 0)] != 0 {
				t.Errorf("KernelOfSkew(%d, %v, %v) = %v is not reduced", k.p, k.m, f, list)
			}
		}
	}
}

func TestKernelsByHand(t *testing.T) {
	s := &sampler{state: 53}
	for _, p := range primes {
		for _, k := range towers(s, p) {
			var all []impl.Poly
			for i := k.degree() - 1; i >= 0; i-- {
				all = append(all, monomial(i))
			}
			expect(t, "KernelOfSkew of 0", results(impl.KernelOfSkew(p, k.m, impl.Skew{})), all)
			expect(t, "KernelOfSkew of tau^d - 1", results(impl.KernelOfSkew(p, k.m, k.unitSkew())), all)
			for i := range impl.MaxSkew + 1 {
				list, code := impl.KernelOfSkew(p, k.m, tau(s.unit(k), i))
				if len(list) != 0 || code != impl.ErrNone {
					t.Errorf("KernelOfSkew of a power of tau = %v, %d", list, code)
				}
			}
		}
	}
	// For 4 elements, T T + T T is 0.
	got := results(impl.KernelOfSkew(2, poly("111"), impl.Skew{poly("10"), poly("1")}))
	expect(t, "KernelOfSkew", got, []impl.Poly{poly("10")})
	// For 27 elements the sum of x, its Frobenius and this one's is 0 for x = 1, and for x = T, for
	// T^3 - T + 1 has no T^2: T^2 leads to 2, which is no part of the kernel.
	got = results(impl.KernelOfSkew(3, poly("1021"), impl.Skew{poly("1"), poly("1"), poly("1")}))
	expect(t, "KernelOfSkew", got, []impl.Poly{poly("10"), poly("1")})
}

// leastSamples returns lists with dependent residues, with 0, and longer than the dimension.
func leastSamples(s *sampler, k *tower) [][]impl.Poly {
	zero, x, y := impl.Poly{}, s.unit(k), s.residue(k)
	lists := [][]impl.Poly{
		nil, {}, {zero}, {zero, zero}, {{1}}, {x}, {x, x}, {x, k.opposite(x)}, {zero, x, zero},
		{x, y}, {y, x, k.plus(x, y)}, {x, k.frobenius[x], k.opposite(x), y}, k.all,
	}
	for n := range 10 {
		var list []impl.Poly
		for range n {
			list = append(list, s.residue(k))
		}
		lists = append(lists, list)
	}
	return lists
}

func TestLeastSkew(t *testing.T) {
	s := &sampler{state: 54}
	for _, p := range primes {
		for _, k := range towers(s, p) {
			for _, list := range leastSamples(s, k) {
				checkLeast(t, k, list)
			}
			expect(t, "LeastSkew of nothing", results(impl.LeastSkew(p, k.m, nil)), one())
			expect(t, "LeastSkew of 0", results(impl.LeastSkew(p, k.m, []impl.Poly{{}})), one())
			want := tau(impl.Poly{1}, 1)
			want[0] = impl.Poly{byte(p - 1)}
			expect(t, "LeastSkew of 1", results(impl.LeastSkew(p, k.m, []impl.Poly{{1}})), want)
			minus := []impl.Poly{{byte(p - 1)}, {1}, {}}
			expect(t, "LeastSkew of 1 and -1", results(impl.LeastSkew(p, k.m, minus)), want)
			expect(t, "LeastSkew of all", results(impl.LeastSkew(p, k.m, k.all)), k.unitSkew())
		}
	}
	// For 4 elements, T to the power 1 is T, and for 9 elements T to the power 2 is -1.
	got := results(impl.LeastSkew(2, poly("111"), []impl.Poly{poly("10")}))
	expect(t, "LeastSkew", got, impl.Skew{poly("10"), poly("1")})
	got = results(impl.LeastSkew(3, poly("101"), []impl.Poly{poly("10")}))
	expect(t, "LeastSkew", got, impl.Skew{poly("1"), poly("1")})
}

// checkLeast relies on this: a skew polynomial of the degree n has at most p^n residues in its
// kernel, so that a monic one with the degree of the dimension is the least.
func checkLeast(t *testing.T, k *tower, list []impl.Poly) {
	t.Helper()
	n := k.dimension(len(k.span(list)))
	f, code := impl.LeastSkew(k.p, k.m, list)
	if code != impl.ErrNone || long(f).degree() != n || f[n] != (impl.Poly{1}) {
		t.Errorf("LeastSkew(%d, %v, %v) = %v, %d", k.p, k.m, list, f, code)
	}
	for _, x := range list {
		if k.value(f, x) != (impl.Poly{}) {
			t.Errorf("LeastSkew(%d, %v, %v) = %v, %d", k.p, k.m, list, f, code)
		}
	}
}

func TestArgumentsOfChapter3Stay(t *testing.T) {
	list := []impl.Poly{poly("10"), poly("1"), poly("11"), poly("1")}
	before := slices.Clone(list)
	f := must[impl.Skew](t)(impl.LeastSkew(2, poly("111"), list[:2]))
	if !slices.Equal(list, before) {
		t.Errorf("LeastSkew made %v of %v", list, before)
	}
	kernel := must[[]impl.Poly](t)(impl.KernelOfSkew(2, poly("111"), f))
	kernel[0] = impl.Poly{}
	again := must[[]impl.Poly](t)(impl.KernelOfSkew(2, poly("111"), f))
	if len(again) != 2 || again[0] != poly("10") {
		t.Errorf("a changed result comes back: %v", again)
	}
}
