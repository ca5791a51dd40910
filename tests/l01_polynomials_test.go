package tests

import (
	"math/big"
	"strconv"
	"strings"
	"testing"

	"loop.example/g01245/impl"
)

func TestConstantsOfChapter1(t *testing.T) {
	codes := []int64{
		impl.ErrNone, impl.ErrInvalid, impl.ErrRange, impl.ErrLimit, impl.ErrNotFound,
		impl.ErrState, impl.ErrSyntax,
	}
	for i, code := range codes {
		if code != int64(i) {
			t.Errorf("the error code %d is %d", i, code)
		}
	}
	if impl.MaxDegree != 63 || impl.MaxListed != 343 || impl.MaxNumber != 1000000000000 {
		t.Errorf("limits %d, %d, %d", impl.MaxDegree, impl.MaxListed, impl.MaxNumber)
	}
}

func TestIsPoly(t *testing.T) {
	for _, p := range primes {
		if !impl.IsPoly(p, impl.Poly{}) || !impl.IsPoly(p, full(p, 63)) {
			t.Errorf("IsPoly(%d) refuses a polynomial", p)
		}
		for i := range 64 {
			for _, c := range []byte{byte(p), byte(p) + 1, 128, 255} {
				a := full(p, 63)
				a[i] = c
				if impl.IsPoly(p, a) {
					t.Errorf("IsPoly(%d) accepts %d at %d", p, c, i)
				}
			}
		}
	}
	for _, p := range notPrimes {
		if impl.IsPoly(p, impl.Poly{}) || impl.IsPoly(p, impl.Poly{1}) {
			t.Errorf("IsPoly(%d) accepts", p)
		}
	}
}

func TestDegreeOf(t *testing.T) {
	for _, p := range primes {
		expect(t, "DegreeOf 0", results(impl.DegreeOf(p, impl.Poly{})), int64(-1))
		for n := range 64 {
			expect(t, "DegreeOf T^n", results(impl.DegreeOf(p, monomial(n))), int64(n))
			expect(t, "DegreeOf", results(impl.DegreeOf(p, full(p, n))), int64(n))
		}
	}
}

func TestSumsAndDifferences(t *testing.T) {
	s := &sampler{state: 1}
	for _, p := range primes {
		for range 200 {
			a, b := s.upTo(p, 63), s.upTo(p, 63)
			sum := plainOf(a).plus(p, 1, plainOf(b)).poly(t)
			less := plainOf(a).plus(p, -1, plainOf(b)).poly(t)
			expect(t, "AddPolys", results(impl.AddPolys(p, a, b)), sum)
			expect(t, "SubtractPolys", results(impl.SubtractPolys(p, a, b)), less)
			expect(t, "SubtractPolys a a", results(impl.SubtractPolys(p, a, a)), impl.Poly{})
		}
		all := full(p, 63)
		expect(t, "AddPolys 0", results(impl.AddPolys(p, all, impl.Poly{})), all)
		expect(t, "SubtractPolys 0", results(impl.SubtractPolys(p, all, impl.Poly{})), all)
		opposite := plain{}.plus(p, -1, plainOf(all)).poly(t)
		expect(t, "SubtractPolys from 0", results(impl.SubtractPolys(p, impl.Poly{}, all)), opposite)
	}
	expect(t, "AddPolys", results(impl.AddPolys(3, poly("1021"), poly("12"))), poly("1000"))
	expect(t, "SubtractPolys", results(impl.SubtractPolys(5, poly("13"), poly("24"))), poly("44"))
	expect(t, "AddPolys", results(impl.AddPolys(7, poly("666"), poly("111"))), poly("0"))
}

func TestMultiplyPolys(t *testing.T) {
	s := &sampler{state: 2}
	for _, p := range primes {
		for n := range 64 {
			a, b := s.poly(p, n), s.poly(p, 63-n)
			want := plainOf(a).times(p, plainOf(b)).poly(t)
			expect(t, "MultiplyPolys", results(impl.MultiplyPolys(p, a, b)), want)
			expect(t, "MultiplyPolys", results(impl.MultiplyPolys(p, b, a)), want)
			expect(t, "MultiplyPolys 1", results(impl.MultiplyPolys(p, a, impl.Poly{1})), a)
			expect(t, "MultiplyPolys 0", results(impl.MultiplyPolys(p, a, impl.Poly{})), impl.Poly{})
			expect(t, "MultiplyPolys 0", results(impl.MultiplyPolys(p, impl.Poly{}, a)), impl.Poly{})
			if n > 0 {
				above := s.poly(p, 64-n)
				expectCode(t, "MultiplyPolys", results(impl.MultiplyPolys(p, a, above)), impl.ErrLimit)
			}
		}
		expect(t, "MultiplyPolys 0 0", results(impl.MultiplyPolys(p, impl.Poly{}, impl.Poly{})), impl.Poly{})
		all := full(p, 63)
		expectCode(t, "MultiplyPolys", results(impl.MultiplyPolys(p, all, all)), impl.ErrLimit)
		half, other := full(p, 31), full(p, 32)
		expect(t, "MultiplyPolys", results(impl.MultiplyPolys(p, half, other)),
			plainOf(half).times(p, plainOf(other)).poly(t))
	}
	expect(t, "MultiplyPolys", results(impl.MultiplyPolys(3, poly("12"), poly("12"))), poly("111"))
}

func TestDividePolys(t *testing.T) {
	example := results(impl.DividePolys(2, poly("100"), poly("11")))
	expect(t, "DividePolys", example, poly("11"), poly("1"))
	s := &sampler{state: 3}
	for _, p := range primes {
		for n := range 64 {
			for range 6 {
				a, b := s.upTo(p, 63), s.poly(p, n)
				q, r := plainOf(a).divided(p, plainOf(b))
				expect(t, "DividePolys", results(impl.DividePolys(p, a, b)), q.poly(t), r.poly(t))
			}
		}
		small, great := s.poly(p, 62), s.poly(p, 63)
		expect(t, "DividePolys less", results(impl.DividePolys(p, small, great)), impl.Poly{}, small)
		expect(t, "DividePolys 0", results(impl.DividePolys(p, impl.Poly{}, great)), impl.Poly{}, impl.Poly{})
		expect(t, "DividePolys same", results(impl.DividePolys(p, great, great)), impl.Poly{1}, impl.Poly{})
		for _, a := range []impl.Poly{{}, {1}, full(p, 63)} {
			expectCode(t, "DividePolys by 0", results(impl.DividePolys(p, a, impl.Poly{})), impl.ErrState)
		}
		for c := int64(1); c < p; c++ {
			q := plainOf(great).times(p, plain{inverseOf(p, c)}).poly(t)
			got := results(impl.DividePolys(p, great, impl.Poly{byte(c)}))
			expect(t, "DividePolys by a number", got, q, impl.Poly{})
		}
	}
}

// factorsBySteps makes the greatest common divisor and its factors as the document tells.
func factorsBySteps(p int64, a, b plain) (plain, plain, plain) {
	r := []plain{a, b}
	u := []plain{{1}, {}}
	v := []plain{{}, {1}}
	k := 1
	for ; len(r[k]) > 0; k++ {
		q, rest := r[k-1].divided(p, r[k])
		r = append(r, rest)
		u = append(u, u[k-1].plus(p, -1, q.times(p, u[k])))
		v = append(v, v[k-1].plus(p, -1, q.times(p, v[k])))
	}
	k--
	c := plain{inverseOf(p, r[k][len(r[k])-1])}
	return r[k].times(p, c), u[k].times(p, c), v[k].times(p, c)
}

func checkDivisor(t *testing.T, p int64, a, b impl.Poly) {
	t.Helper()
	d, u, v := factorsBySteps(p, plainOf(a), plainOf(b))
	expect(t, "GcdOf", results(impl.GcdOf(p, a, b)), d.poly(t))
	expect(t, "BezoutOf", results(impl.BezoutOf(p, a, b)), d.poly(t), u.poly(t), v.poly(t))
}

func TestCommonDivisors(t *testing.T) {
	s := &sampler{state: 4}
	for _, p := range primes {
		for range 150 {
			checkDivisor(t, p, s.upTo(p, 63), s.poly(p, int(s.below(64))))
			checkDivisor(t, p, s.poly(p, int(s.below(64))), s.upTo(p, 63))
			common := plainOf(s.poly(p, int(s.below(32))))
			a := common.times(p, plainOf(s.poly(p, int(s.below(32)))))
			b := common.times(p, plainOf(s.poly(p, int(s.below(32)))))
			checkDivisor(t, p, a.poly(t), b.poly(t))
		}
		great := s.poly(p, 63)
		for c := int64(1); c < p; c++ {
			number := impl.Poly{byte(c)}
			checkDivisor(t, p, great, number)
			checkDivisor(t, p, number, great)
			checkDivisor(t, p, number, impl.Poly{1})
		}
		checkDivisor(t, p, great, great)
		checkDivisor(t, p, great, s.poly(p, 63))
		checkDivisor(t, p, s.poly(p, 62), great)
		zeros := []impl.Poly{{}, {}}
		expectCode(t, "GcdOf", results(impl.GcdOf(p, zeros[0], zeros[1])), impl.ErrState)
		expectCode(t, "BezoutOf", results(impl.BezoutOf(p, zeros[0], zeros[1])), impl.ErrState)
	}
}

func TestCommonDivisorsByHand(t *testing.T) {
	expect(t, "GcdOf", results(impl.GcdOf(5, poly("104"), poly("22"))), poly("11"))
	expect(t, "GcdOf 0 b", results(impl.GcdOf(5, poly("0"), poly("24"))), poly("12"))
	expect(t, "GcdOf a 0", results(impl.GcdOf(7, poly("30"), poly("0"))), poly("10"))
	got := results(impl.BezoutOf(2, poly("101"), poly("10")))
	expect(t, "BezoutOf", got, poly("1"), poly("1"), poly("10"))
	got = results(impl.BezoutOf(5, poly("0"), poly("24")))
	expect(t, "BezoutOf 0 b", got, poly("12"), poly("0"), poly("3"))
	got = results(impl.BezoutOf(5, poly("24"), poly("0")))
	expect(t, "BezoutOf a 0", got, poly("12"), poly("3"), poly("0"))
	// Equal ones end at r(1), so that the factor of the first one is 0.
	got = results(impl.BezoutOf(5, poly("24"), poly("24")))
	expect(t, "BezoutOf a a", got, poly("12"), poly("0"), poly("3"))
}

func TestValuesAndRoots(t *testing.T) {
	s := &sampler{state: 5}
	for _, p := range primes {
		for range 100 {
			a := s.upTo(p, 63)
			roots := 0
			for x := range p {
				want, power := int64(0), int64(1)
				for i := range a {
					want = (want + int64(a[i])*power) % p
					power = power * x % p
				}
				expect(t, "ValueAt", results(impl.ValueAt(p, a, x)), want)
				if want == 0 {
					roots++
				}
			}
			if a != (impl.Poly{}) {
				checkRoots(t, p, a, roots)
			}
		}
		expect(t, "ValueAt 0", results(impl.ValueAt(p, impl.Poly{}, p-1)), int64(0))
		expect(t, "ValueAt at 0", results(impl.ValueAt(p, impl.Poly{1}, 0)), int64(1))
		for _, x := range []int64{-1, p, p + 1, -1 << 63, 1<<63 - 1} {
			expectCode(t, "ValueAt", results(impl.ValueAt(p, full(p, 63), x)), impl.ErrRange)
		}
		expectCode(t, "RootsOf 0", results(impl.RootsOf(p, impl.Poly{})), impl.ErrState)
		// T^p - T has every number as a root, and less 1 none.
		all := plain{}.plus(p, 1, plain{1}.shifted(p, 1, int(p))).plus(p, -1, plain{0, 1})
		checkRoots(t, p, all.poly(t), int(p))
		checkRoots(t, p, all.plus(p, -1, plain{1}).poly(t), 0)
		checkRoots(t, p, monomial(63), 1)
		checkRoots(t, p, impl.Poly{byte(p - 1)}, 0)
	}
	expect(t, "RootsOf", results(impl.RootsOf(5, poly("104"))), []int64{1, 4})
}

// checkRoots checks that all roots are listed, strictly ascending, and count of them.
func checkRoots(t *testing.T, p int64, a impl.Poly, count int) {
	t.Helper()
	roots, code := impl.RootsOf(p, a)
	if code != impl.ErrNone || len(roots) != count {
		t.Fatalf("RootsOf(%d, %v) = %v, %d, want %d roots", p, a, roots, code, count)
	}
	for i, x := range roots {
		if value, _ := impl.ValueAt(p, a, x); value != 0 || i > 0 && roots[i-1] >= x {
			t.Errorf("RootsOf(%d, %v) = %v", p, a, roots)
		}
	}
}

func TestDerivativeOf(t *testing.T) {
	s := &sampler{state: 6}
	for _, p := range primes {
		for range 100 {
			a := s.upTo(p, 63)
			want := plain{}
			for i, c := range plainOf(a) {
				if i > 0 {
					want = want.plus(p, 1, plain{int64(i) * c % p}.shifted(p, 1, i-1))
				}
			}
			expect(t, "DerivativeOf", results(impl.DerivativeOf(p, a)), want.poly(t))
		}
		expect(t, "DerivativeOf 0", results(impl.DerivativeOf(p, impl.Poly{})), impl.Poly{})
		expect(t, "DerivativeOf 1", results(impl.DerivativeOf(p, impl.Poly{1})), impl.Poly{})
		expect(t, "DerivativeOf T", results(impl.DerivativeOf(p, poly("10"))), impl.Poly{1})
		expect(t, "DerivativeOf T^p", results(impl.DerivativeOf(p, monomial(int(p)))), impl.Poly{})
		want := plain{63 % p}.shifted(p, 1, 62).poly(t)
		expect(t, "DerivativeOf T^63", results(impl.DerivativeOf(p, monomial(63))), want)
	}
	expect(t, "DerivativeOf", results(impl.DerivativeOf(3, poly("1021"))), poly("2"))
}

func TestPowerOf(t *testing.T) {
	s := &sampler{state: 7}
	for _, p := range primes {
		for n := 1; n <= 63; n++ {
			a := s.poly(p, n)
			want := plain{1}
			for k := 0; n*k <= 63; k++ {
				expect(t, "PowerOf", results(impl.PowerOf(p, a, int64(k))), want.poly(t))
				want = want.times(p, plainOf(a))
			}
			for _, k := range []int64{int64(63/n + 1), 64, 128, 1 << 32, impl.MaxNumber} {
				expectCode(t, "PowerOf", results(impl.PowerOf(p, a, k)), impl.ErrLimit)
			}
		}
		for c := range p {
			for _, k := range []int64{0, 1, 2, 5, 64, 1000003, impl.MaxNumber - 1, impl.MaxNumber} {
				want := new(big.Int).Exp(big.NewInt(c), big.NewInt(k), big.NewInt(p)).Int64()
				got := results(impl.PowerOf(p, impl.Poly{byte(c)}, k))
				expect(t, "PowerOf a number", got, impl.Poly{byte(want)})
			}
		}
		for _, a := range []impl.Poly{{}, {1}, full(p, 63)} {
			for _, k := range []int64{-1, impl.MaxNumber + 1, -1 << 63, 1<<63 - 1} {
				expectCode(t, "PowerOf", results(impl.PowerOf(p, a, k)), impl.ErrRange)
			}
			expect(t, "PowerOf 0", results(impl.PowerOf(p, a, 0)), impl.Poly{1})
			expect(t, "PowerOf 1", results(impl.PowerOf(p, a, 1)), a)
		}
	}
	expect(t, "PowerOf", results(impl.PowerOf(2, poly("11"), 3)), poly("1111"))
}

func TestPowerModulo(t *testing.T) {
	s := &sampler{state: 8}
	for _, p := range primes {
		for n := range 64 {
			a, m := s.upTo(p, 63), s.poly(p, n)
			_, want := plain{1}.divided(p, plainOf(m))
			for k := range int64(12) {
				expect(t, "PowerModulo", results(impl.PowerModulo(p, a, k, m)), want.poly(t))
				_, want = want.times(p, plainOf(a)).divided(p, plainOf(m))
			}
			for _, k := range []int64{-1, impl.MaxNumber + 1, -1 << 63, 1<<63 - 1} {
				expectCode(t, "PowerModulo", results(impl.PowerModulo(p, a, k, m)), impl.ErrRange)
			}
		}
		for _, k := range []int64{0, 1, impl.MaxNumber} {
			got := results(impl.PowerModulo(p, full(p, 63), k, impl.Poly{}))
			expectCode(t, "PowerModulo by 0", got, impl.ErrState)
			got = results(impl.PowerModulo(p, full(p, 63), k, impl.Poly{byte(p - 1)}))
			expect(t, "PowerModulo by a number", got, impl.Poly{})
		}
		expect(t, "PowerModulo 0^0", results(impl.PowerModulo(p, impl.Poly{}, 0, poly("10"))), impl.Poly{1})
		expect(t, "PowerModulo 0", results(impl.PowerModulo(p, impl.Poly{}, impl.MaxNumber, poly("10"))), impl.Poly{})
	}
	expect(t, "PowerModulo", results(impl.PowerModulo(2, poly("10"), 8, poly("1011"))), poly("10"))
}

// Great powers are checked digit by digit of k, by the rule that the power p takes coefficients
// along, and by powers of powers.
func TestGreatPowersModulo(t *testing.T) {
	s := &sampler{state: 9}
	numbers := []int64{impl.MaxNumber, impl.MaxNumber - 1, 999999999989, 1 << 39, 1<<39 - 1, 123456789}
	for _, p := range primes {
		for _, n := range []int{1, 2, 5, 31, 62, 63} {
			for _, k := range numbers {
				a, m := s.upTo(p, 63), s.poly(p, n)
				want := greatPower(p, plainOf(a), k, plainOf(m))
				expect(t, "PowerModulo", results(impl.PowerModulo(p, a, k, m)), want.poly(t))
			}
		}
	}
}

// greatPower goes through the digits of k for the base p, from the last one on.
func greatPower(p int64, a plain, k int64, m plain) plain {
	_, result := plain{1}.divided(p, m)
	for ; k > 0; k /= p {
		for range k % p {
			_, result = result.times(p, a).divided(p, m)
		}
		apart := plain{}
		for i, c := range a {
			apart = apart.plus(p, 1, plain{c}.shifted(p, 1, i*int(p)))
		}
		_, a = apart.divided(p, m)
	}
	return result
}

func TestComposePolys(t *testing.T) {
	s := &sampler{state: 10}
	for _, p := range primes {
		for n := -1; n <= 63; n++ {
			for k := -1; k <= 63; k++ {
				a, b := s.poly(p, n), s.poly(p, k)
				if n > 0 && k > 0 && n*k > 63 {
					expectCode(t, "ComposePolys", results(impl.ComposePolys(p, a, b)), impl.ErrLimit)
					continue
				}
				want, power := plain{}, plain{1}
				for _, c := range plainOf(a) {
					want = want.plus(p, c, power)
					power = power.times(p, plainOf(b))
				}
				expect(t, "ComposePolys", results(impl.ComposePolys(p, a, b)), want.poly(t))
			}
		}
	}
	expect(t, "ComposePolys", results(impl.ComposePolys(3, poly("101"), poly("11"))), poly("122"))
	expect(t, "ComposePolys 63", results(impl.ComposePolys(2, monomial(9), monomial(7))), monomial(63))
	expectCode(t, "ComposePolys 64", results(impl.ComposePolys(2, monomial(8), monomial(8))), impl.ErrLimit)
}

func TestMonicPolys(t *testing.T) {
	greatest := map[int64]int64{2: 8, 3: 5, 5: 3, 7: 3}
	for _, p := range primes {
		count := 1
		for n := int64(0); n <= greatest[p]; n++ {
			checkMonic(t, p, n, count)
			count *= int(p)
		}
		for _, n := range []int64{greatest[p] + 1, 22, 23, 32, 62, 63} {
			expectCode(t, "MonicPolys", results(impl.MonicPolys(p, n)), impl.ErrLimit)
		}
		for _, n := range []int64{-1, 64, 65, -1 << 63, 1<<63 - 1} {
			expectCode(t, "MonicPolys", results(impl.MonicPolys(p, n)), impl.ErrRange)
		}
	}
	want := []impl.Poly{poly("100"), poly("101"), poly("110"), poly("111")}
	expect(t, "MonicPolys", results(impl.MonicPolys(2, 2)), want)
	expect(t, "MonicPolys", results(impl.MonicPolys(7, 0)), []impl.Poly{{1}})
}

// checkMonic relies on this: as many different monic ones as there are can only be all of them.
func checkMonic(t *testing.T, p, n int64, count int) {
	t.Helper()
	list, code := impl.MonicPolys(p, n)
	if code != impl.ErrNone || len(list) != count {
		t.Fatalf("MonicPolys(%d, %d): %d, code %d, want %d", p, n, len(list), code, count)
	}
	for i, a := range list {
		c := plainOf(a)
		if int64(len(c)) != n+1 || c[n] != 1 || !impl.IsPoly(p, a) {
			t.Errorf("MonicPolys(%d, %d) has %v", p, n, a)
		}
		if i > 0 && plainOf(list[i-1]).number(p).Cmp(c.number(p)) >= 0 {
			t.Errorf("MonicPolys(%d, %d) is not in order at %d", p, n, i)
		}
	}
}

func TestNumbersOfPolys(t *testing.T) {
	s := &sampler{state: 11}
	limit := big.NewInt(impl.MaxNumber)
	for _, p := range primes {
		for range 300 {
			a := s.upTo(p, 63)
			number := plainOf(a).number(p)
			got := results(impl.NumberOfPoly(p, a))
			if number.Cmp(limit) > 0 {
				expectCode(t, "NumberOfPoly", got, impl.ErrLimit)
				continue
			}
			expect(t, "NumberOfPoly", got, number.Int64())
			expect(t, "PolyOfNumber", results(impl.PolyOfNumber(p, number.Int64())), a)
		}
		for n := range 64 {
			for _, a := range []impl.Poly{monomial(n), full(p, n)} {
				want := plainOf(a).number(p)
				if want.Cmp(limit) > 0 {
					expectCode(t, "NumberOfPoly", results(impl.NumberOfPoly(p, a)), impl.ErrLimit)
				} else {
					expect(t, "NumberOfPoly", results(impl.NumberOfPoly(p, a)), want.Int64())
				}
			}
		}
	}
	expect(t, "NumberOfPoly", results(impl.NumberOfPoly(3, poly("1021"))), int64(34))
	expect(t, "PolyOfNumber", results(impl.PolyOfNumber(3, 34)), poly("1021"))
}

// ofNumber returns the polynomial with the number n, without the help of the program.
func ofNumber(p, n int64) impl.Poly {
	return poly(big.NewInt(n).Text(int(p)))
}

func TestNumbersAtTheirLimits(t *testing.T) {
	for _, p := range primes {
		for _, n := range []int64{0, 1, p - 1, p, impl.MaxNumber - 1, impl.MaxNumber} {
			expect(t, "PolyOfNumber", results(impl.PolyOfNumber(p, n)), ofNumber(p, n))
			expect(t, "NumberOfPoly", results(impl.NumberOfPoly(p, ofNumber(p, n))), n)
		}
		for _, n := range []int64{-1, impl.MaxNumber + 1, -1 << 63, 1<<63 - 1} {
			expectCode(t, "PolyOfNumber", results(impl.PolyOfNumber(p, n)), impl.ErrRange)
		}
		for _, n := range []int64{impl.MaxNumber + 1, impl.MaxNumber + 2, 1<<63 - 1} {
			got := results(impl.NumberOfPoly(p, ofNumber(p, n)))
			expectCode(t, "NumberOfPoly", got, impl.ErrLimit)
		}
	}
}

func TestTextsOfPolys(t *testing.T) {
	s := &sampler{state: 12}
	for _, p := range primes {
		list := []impl.Poly{{}, {1}, {byte(p - 1)}, monomial(1), monomial(63), full(p, 63)}
		for n := range 64 {
			list = append(list, s.poly(p, n))
		}
		for _, a := range list {
			text := "0"
			if c := plainOf(a); len(c) > 0 {
				text = c.number(10).String()
			}
			expect(t, "PolyText", results(impl.PolyText(p, a)), text)
			expect(t, "ParsePoly", results(impl.ParsePoly(p, text)), a)
		}
	}
	expect(t, "PolyText", results(impl.PolyText(7, impl.Poly{6, 0, 5})), "506")
	expect(t, "ParsePoly", results(impl.ParsePoly(7, "506")), impl.Poly{6, 0, 5})
}

func TestWrongTexts(t *testing.T) {
	ones := strings.Repeat("1", 64)
	wrong := []string{
		"", "00", "01", "010", "0" + ones, ones + "0", ones + ones, strings.Repeat("0", 64),
		strings.Repeat("0", 65), "7", "8", "9", "17", "71", "a", "A", "T", "-", "-1", "+1", " ", " 1",
		"1 ", "1 0", "1\n", "\n1", "1\x00", "\x00", "/", ":", "1:", "1/", "\x80", "\xff1", "1.0", "1e1", "0x1",
		"\xef\xbc\x91", "1\xc2\xb2", "1_0", "p1", ones[:63] + "7", strings.Repeat("1", 1<<16),
	}
	for _, p := range primes {
		digit := string(rune('0' + p))
		texts := append([]string{digit, "1" + digit, digit + "1", ones[:63] + digit}, wrong...)
		for _, text := range texts {
			name := "ParsePoly of " + strconv.Quote(text[:min(len(text), 80)])
			expectCode(t, name, results(impl.ParsePoly(p, text)), impl.ErrSyntax)
		}
		expect(t, "ParsePoly", results(impl.ParsePoly(p, ones)), poly(ones))
		expect(t, "ParsePoly", results(impl.ParsePoly(p, "0")), impl.Poly{})
	}
}

// Results are new memory: changing one changes no later one.
func TestListsAreNew(t *testing.T) {
	list, _ := impl.MonicPolys(3, 2)
	roots, _ := impl.RootsOf(3, poly("10"))
	list[0], roots[0] = impl.Poly{}, 2
	again, _ := impl.MonicPolys(3, 2)
	rootsAgain, _ := impl.RootsOf(3, poly("10"))
	if again[0] != poly("100") || rootsAgain[0] != 0 {
		t.Errorf("a changed result comes back: %v, %v", again[0], rootsAgain)
	}
}
