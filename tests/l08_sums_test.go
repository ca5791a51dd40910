package tests

import (
	"testing"

	"loop.example/g01245/impl"
)

// sumOneByOne adds up the powers k of a m + c, by chapter 1.
func sumOneByOne(t *testing.T, p, d, k int64, m, c impl.Poly) impl.Poly {
	t.Helper()
	ok := must[impl.Poly](t)
	var all impl.Poly
	for _, a := range must[[]impl.Poly](t)(impl.MonicPolys(p, d)) {
		base := ok(impl.AddPolys(p, ok(impl.MultiplyPolys(p, a, m)), c))
		all = ok(impl.AddPolys(p, all, ok(impl.PowerOf(p, base, k))))
	}
	return all
}

// All d and k in their ranges are tried, and the next ones.
func TestPowerSum(t *testing.T) {
	for _, p := range primes {
		all := sumsOf(p)
		for d := int64(-1); d <= 9; d++ {
			for k := int64(-1); k <= impl.MaxExponent+1; k++ {
				code := codeOfPowers(p, d, 0, k)
				expectCode(t, "PowerSum", results(impl.PowerSum(p, d, k)), code)
				if code == impl.ErrNone {
					want := all.powers(d, k).poly(t)
					expect(t, "PowerSum", results(impl.PowerSum(p, d, k)), want)
					expect(t, "PowerSum", results(impl.PowerSum(p, d, k)), sumOneByOne(t, p, d, k, impl.Poly{1}, impl.Poly{}))
				}
			}
		}
	}
}

func TestPowerSumsByHand(t *testing.T) {
	for _, p := range primes {
		for k := int64(0); k <= impl.MaxExponent; k++ {
			expect(t, "PowerSum", results(impl.PowerSum(p, 0, k)), impl.Poly{1})
		}
		for d := int64(1); d <= mostSummed[p]; d++ {
			// There are as many as a power of p of them.
			expect(t, "PowerSum", results(impl.PowerSum(p, d, 0)), impl.Poly{})
		}
	}
	expect(t, "PowerSum", results(impl.PowerSum(2, 1, 1)), poly("1"))
	expect(t, "PowerSum", results(impl.PowerSum(2, 2, 1)), poly("0"))
	expect(t, "PowerSum", results(impl.PowerSum(2, 1, 3)), poly("111"))
	// T^2, (T + 1)^2 and (T + 2)^2.
	expect(t, "PowerSum", results(impl.PowerSum(3, 1, 1)), poly("0"))
	expect(t, "PowerSum", results(impl.PowerSum(3, 1, 2)), poly("2"))
	expect(t, "PowerSum", results(impl.PowerSum(3, 1, 5)), poly("2010"))
	// Of the powers of T + c, for all c, those of c remain that are multiples of p - 1.
	expect(t, "PowerSum", results(impl.PowerSum(5, 1, 4)), poly("4"))
	expect(t, "PowerSum", results(impl.PowerSum(5, 1, 9)), poly("400010"))
	expect(t, "PowerSum", results(impl.PowerSum(7, 1, 6)), poly("6"))
	expect(t, "PowerSum", results(impl.PowerSum(7, 1, 13)), poly("60000010"))
}

// The powers of the greatest degree that fits, and those of the least one that does not.
func TestPowersAtMaxDegree(t *testing.T) {
	fits := map[int64][][2]int64{
		2: {{1, 40}, {2, 31}, {3, 21}, {4, 15}, {5, 12}, {6, 10}, {7, 9}, {8, 7}},
		3: {{1, 40}, {2, 31}, {3, 21}, {4, 15}, {5, 12}},
		5: {{1, 40}, {2, 31}, {3, 21}},
		7: {{1, 40}, {2, 31}, {3, 21}},
	}
	for _, p := range primes {
		for _, pair := range fits[p] {
			d, k := pair[0], pair[1]
			expectCode(t, "PowerSum", results(impl.PowerSum(p, d, k)), impl.ErrNone)
			expectCode(t, "ShiftedSum", results(impl.ShiftedSum(p, monomial(1), d-1, k)), impl.ErrNone)
			over := int64(impl.ErrLimit)
			if k == impl.MaxExponent {
				over = impl.ErrRange
			}
			expectCode(t, "PowerSum", results(impl.PowerSum(p, d, k+1)), over)
			expectCode(t, "ShiftedSum", results(impl.ShiftedSum(p, monomial(1), d-1, k+1)), over)
		}
	}
	// Exactly MaxDegree, and 1 more.
	expectCode(t, "PowerSum", results(impl.PowerSum(2, 7, 9)), impl.ErrNone)
	expectCode(t, "PowerSum", results(impl.PowerSum(2, 8, 8)), impl.ErrLimit)
	expectCode(t, "PowerSum", results(impl.PowerSum(7, 3, 21)), impl.ErrNone)
	expectCode(t, "PowerSum", results(impl.PowerSum(7, 2, 32)), impl.ErrLimit)
}

func TestDigitSum(t *testing.T) {
	s := &sampler{state: 300}
	for _, p := range primes {
		numbers := []int64{impl.MaxNumber, impl.MaxNumber - 1, 1 << 32, 1<<32 + 1, 1<<39 - 1}
		for k := range int64(1000) {
			numbers = append(numbers, k, s.below(impl.MaxNumber/1000+1)*1000, s.below(1<<30)*s.below(900))
		}
		for _, k := range numbers {
			expect(t, "DigitSum", results(impl.DigitSum(p, k)), digitsOf(p, k))
		}
		places := int64(0)
		for power := int64(1); power <= impl.MaxNumber; power *= p {
			expect(t, "DigitSum", results(impl.DigitSum(p, power)), int64(1))
			expect(t, "DigitSum", results(impl.DigitSum(p, power-1)), places*(p-1))
			places++
		}
	}
	expect(t, "DigitSum", results(impl.DigitSum(2, 0)), int64(0))
	expect(t, "DigitSum", results(impl.DigitSum(3, 5)), int64(3))
	expect(t, "DigitSum", results(impl.DigitSum(7, 48)), int64(12))
	expect(t, "DigitSum", results(impl.DigitSum(5, impl.MaxNumber)), int64(12))
}

// lastSummed returns the last degree whose power sum has to be summed.
func lastSummed(p, k int64) int64 {
	last := int64(0)
	for (last+1)*(p-1) <= digitsOf(p, k) {
		last++
	}
	return last
}

// Zeta is held against the power sums of all degrees up to 8, those that are 0 among them, and of as
// many as the program finds.
func TestZetaAt(t *testing.T) {
	for _, p := range primes {
		all := sumsOf(p)
		for k := int64(0); k <= impl.MaxExponent; k++ {
			last := lastSummed(p, k)
			code := codeOfPowers(p, last, 0, k)
			expectCode(t, "ZetaAt", results(impl.ZetaAt(p, k)), code)
			for d := last + 1; d <= 8; d++ {
				if sum := all.powers(d, k); len(sum) > 0 {
					t.Errorf("%d: the power sum of %d and %d is %v", p, d, k, sum)
				}
			}
			if code != impl.ErrNone {
				continue
			}
			expect(t, "ZetaAt", results(impl.ZetaAt(p, k)), all.below(9, k).poly(t))
			var some impl.Poly
			for d := int64(0); codeOfPowers(p, d, 0, k) == impl.ErrNone; d++ {
				some = plusTimes(p, some, 1, must[impl.Poly](t)(impl.PowerSum(p, d, k)))
			}
			expect(t, "ZetaAt", results(impl.ZetaAt(p, k)), some)
		}
	}
}

func TestZetaByHand(t *testing.T) {
	for _, p := range primes {
		expect(t, "ZetaAt", results(impl.ZetaAt(p, 0)), impl.Poly{1})
		for k := int64(1); k < p-1; k++ {
			expect(t, "ZetaAt", results(impl.ZetaAt(p, k)), impl.Poly{1})
		}
		for power := p; power <= impl.MaxExponent && p > 2; power *= p {
			expect(t, "ZetaAt", results(impl.ZetaAt(p, power)), impl.Poly{1})
		}
	}
	for _, k := range []int64{1, 2, 3, 4, 15, 16, 21, 24, 32} {
		expect(t, "ZetaAt", results(impl.ZetaAt(2, k)), impl.Poly{})
	}
	expect(t, "ZetaAt", results(impl.ZetaAt(3, 2)), impl.Poly{})
	expect(t, "ZetaAt", results(impl.ZetaAt(3, 4)), impl.Poly{})
	expect(t, "ZetaAt", results(impl.ZetaAt(3, 5)), poly("2011"))
	expect(t, "ZetaAt", results(impl.ZetaAt(3, 7)), poly("1021"))
	expect(t, "ZetaAt", results(impl.ZetaAt(5, 9)), poly("400011"))
	expect(t, "ZetaAt", results(impl.ZetaAt(7, 13)), poly("60000011"))
}

// Some degrees are exactly MaxDegree, and others exceed it.
func TestZetaAtMaxDegree(t *testing.T) {
	tooGreat := map[int64][]int64{
		2: {22, 23, 25, 26, 27, 28, 29, 30, 31, 33, 34, 35, 36, 37, 38, 39, 40},
		3: {26, 32, 34, 35, 38, 40},
	}
	for _, p := range primes {
		codes := map[int64]int64{}
		for _, k := range tooGreat[p] {
			codes[k] = impl.ErrLimit
		}
		for k := int64(0); k <= impl.MaxExponent; k++ {
			expectCode(t, "ZetaAt", results(impl.ZetaAt(p, k)), codes[k])
		}
	}
	// 21 is 10101 for 2: of the degree 3 its powers have the degree 63.
	expect(t, "ZetaAt", results(impl.ZetaAt(2, 21)), impl.Poly{})
}

// codeOfParts returns the code of a nested sum before its parts are multiplied.
func codeOfParts(p, d, k, l int64) int64 {
	first := codeOfPowers(p, d, 0, k)
	// Nothing is of a lesser degree than 0, and no power of it is too great.
	last := codeOfPowers(p, max(d-1, 0), 0, l)
	if first == impl.ErrRange || last == impl.ErrRange {
		return impl.ErrRange
	}
	return max(first, last)
}

// All d, k and l in their ranges are tried, and the next ones.
func TestNestedSum(t *testing.T) {
	for _, p := range primes {
		all := sumsOf(p)
		degrees := map[int]int{}
		for d := int64(-1); d <= 9; d++ {
			for l := int64(-1); l <= impl.MaxExponent+1; l++ {
				for k := int64(-1); k <= impl.MaxExponent+1; k++ {
					got := results(impl.NestedSum(p, d, k, l))
					if code := codeOfParts(p, d, k, l); code != impl.ErrNone {
						expectCode(t, "NestedSum", got, code)
						continue
					}
					want := all.powers(d, k).times(p, all.below(d, l))
					degrees[len(want)-1]++
					if len(want) > impl.MaxDegree+1 {
						expectCode(t, "NestedSum", got, impl.ErrLimit)
						continue
					}
					expect(t, "NestedSum", got, want.poly(t))
				}
			}
		}
		// Products have exactly MaxDegree for 3 alone, and 1 more for 2 alone.
		if degrees[-1] == 0 || degrees[0] == 0 || p == 2 && degrees[64] == 0 || p == 3 && degrees[63] == 0 {
			t.Errorf("%d: the degrees are %v", p, degrees)
		}
	}
}

// The parts are those that the program finds.
func TestNestedSumsAreProducts(t *testing.T) {
	ok := must[impl.Poly](t)
	for _, p := range primes {
		for d := int64(0); d <= mostSummed[p]; d++ {
			for _, k := range []int64{0, 1, 2, 3, 5, 7, 8} {
				for _, l := range []int64{0, 1, 2, 3, 4, 6, 7, 8} {
					if d*k > impl.MaxDegree || (d-1)*l > impl.MaxDegree {
						continue
					}
					var below impl.Poly
					for e := range d {
						below = ok(impl.AddPolys(p, below, ok(impl.PowerSum(p, e, l))))
					}
					want, code := impl.MultiplyPolys(p, ok(impl.PowerSum(p, d, k)), below)
					expectCode(t, "NestedSum", results(impl.NestedSum(p, d, k, l)), code)
					if code == impl.ErrNone {
						expect(t, "NestedSum", results(impl.NestedSum(p, d, k, l)), want)
					}
				}
			}
		}
	}
}

func TestNestedSumsByHand(t *testing.T) {
	for _, p := range primes {
		for _, n := range []int64{0, 1, 7, impl.MaxExponent} {
			// Nothing is of a lesser degree than 0, and only 1 of a lesser degree than 1.
			expect(t, "NestedSum", results(impl.NestedSum(p, 0, n, n)), impl.Poly{})
			expect(t, "NestedSum", results(impl.NestedSum(p, 0, 1, n)), impl.Poly{})
			want := must[impl.Poly](t)(impl.PowerSum(p, 1, n))
			for l := int64(0); l <= impl.MaxExponent; l++ {
				expect(t, "NestedSum", results(impl.NestedSum(p, 1, n, l)), want)
			}
		}
	}
	expect(t, "NestedSum", results(impl.NestedSum(2, 1, 1, 1)), poly("1"))
	// The cubes of T^2 + .. make T^2 + T; those of T and T + 1 make T^2 + T + 1, and 1 is added.
	expect(t, "NestedSum", results(impl.NestedSum(2, 2, 3, 1)), poly("0"))
	expect(t, "NestedSum", results(impl.NestedSum(2, 2, 3, 3)), poly("10100"))
	expect(t, "NestedSum", results(impl.NestedSum(2, 2, 3, 7)), poly("100000100"))
	expect(t, "NestedSum", results(impl.NestedSum(3, 1, 2, 5)), poly("2"))
	expect(t, "NestedSum", results(impl.NestedSum(3, 2, 1, 5)), poly("0"))
	expect(t, "NestedSum", results(impl.NestedSum(3, 2, 8, 1)), poly("1010100"))
	expect(t, "NestedSum", results(impl.NestedSum(3, 2, 8, 5)), poly("2001011100"))
	expect(t, "NestedSum", results(impl.NestedSum(5, 2, 24, 9)), poly("40000100010001000100110000"))
	// A product with 0 is 0, whatever the degree of the other one.
	expect(t, "NestedSum", results(impl.NestedSum(2, 2, 31, 1)), impl.Poly{})
	expectCode(t, "NestedSum", results(impl.NestedSum(2, 2, 31, 40)), impl.ErrLimit)
	// Powers are too great also if what they are multiplied with is 0.
	expectCode(t, "NestedSum", results(impl.NestedSum(2, 3, 1, 32)), impl.ErrLimit)
	expectCode(t, "NestedSum", results(impl.NestedSum(2, 3, 22, 0)), impl.ErrLimit)
}

// shiftModuli returns a few moduli of each degree.
func shiftModuli(s *sampler, p int64) []impl.Poly {
	var list []impl.Poly
	for n := 1; n <= impl.MaxModulus; n++ {
		list = append(list, monomial(n), s.irreducible(p, n), s.monic(p, n))
	}
	return list
}

func TestShiftedSum(t *testing.T) {
	s := &sampler{state: 301}
	for _, p := range primes {
		all := sumsOf(p)
		for _, m := range shiftModuli(s, p) {
			for d := int64(-1); d <= 9; d++ {
				for k := int64(-1); k <= impl.MaxExponent+1; k++ {
					got := results(impl.ShiftedSum(p, m, d, k))
					code := codeOfPowers(p, d, int64(degreeOf(m)), k)
					expectCode(t, "ShiftedSum", got, code)
					if code == impl.ErrNone {
						expect(t, "ShiftedSum", got, all.shifted(m, d, k).poly(t))
					}
				}
			}
		}
	}
}

func TestShiftedSumsOneByOne(t *testing.T) {
	s := &sampler{state: 302}
	for _, p := range primes {
		for n := 1; n <= impl.MaxModulus; n++ {
			for d := int64(0); d <= mostSummed[p]; d++ {
				m := s.monic(p, n)
				for k := int64(0); codeOfPowers(p, d, int64(n), k) == impl.ErrNone; k++ {
					want := sumOneByOne(t, p, d, k, m, impl.Poly{1})
					expect(t, "ShiftedSum", results(impl.ShiftedSum(p, m, d, k)), want)
				}
			}
		}
	}
}

func TestShiftedSumsByHand(t *testing.T) {
	for _, p := range primes {
		for n := 1; n <= impl.MaxModulus; n++ {
			m := monomial(n)
			expect(t, "ShiftedSum", results(impl.ShiftedSum(p, m, 0, 0)), impl.Poly{1})
			expect(t, "ShiftedSum", results(impl.ShiftedSum(p, m, 0, 1)), plusTimes(p, impl.Poly{1}, 1, m))
			expect(t, "ShiftedSum", results(impl.ShiftedSum(p, m, 1, 0)), impl.Poly{})
			expectCode(t, "ShiftedSum", results(impl.ShiftedSum(p, m, mostSummed[p]+1, 0)), impl.ErrRange)
		}
		// Each power p is that of its parts.
		want := plusTimes(p, impl.Poly{1}, 1, monomial(int(p)))
		expect(t, "ShiftedSum", results(impl.ShiftedSum(p, monomial(1), 0, p)), want)
	}
	expect(t, "ShiftedSum", results(impl.ShiftedSum(2, poly("10"), 1, 1)), poly("10"))
	// The squares of T^2 + c T + 1.
	expect(t, "ShiftedSum", results(impl.ShiftedSum(3, poly("10"), 1, 2)), poly("200"))
	expect(t, "ShiftedSum", results(impl.ShiftedSum(3, poly("11"), 1, 2)), poly("212"))
	// The degrees are exactly MaxDegree, and 1 more.
	expectCode(t, "ShiftedSum", results(impl.ShiftedSum(2, monomial(1), 8, 7)), impl.ErrNone)
	expectCode(t, "ShiftedSum", results(impl.ShiftedSum(2, monomial(1), 7, 8)), impl.ErrLimit)
	expectCode(t, "ShiftedSum", results(impl.ShiftedSum(7, monomial(4), 3, 9)), impl.ErrNone)
	expectCode(t, "ShiftedSum", results(impl.ShiftedSum(7, monomial(5), 3, 8)), impl.ErrLimit)
	// A power 0 has no degree that is too great.
	expect(t, "ShiftedSum", results(impl.ShiftedSum(2, monomial(5), 8, 0)), impl.Poly{})
}

// firstByPowerSums goes through the power sums of the program.
func firstByPowerSums(p, k int64) (int64, int64) {
	for d := int64(0); ; d++ {
		sum, code := impl.PowerSum(p, d, k)
		if code != impl.ErrNone {
			return 0, code
		}
		if sum == (impl.Poly{}) {
			return d, impl.ErrNone
		}
	}
}

func TestFirstVanishing(t *testing.T) {
	for _, p := range primes {
		all := sumsOf(p)
		for k := int64(1); k <= impl.MaxExponent; k++ {
			first := int64(0)
			for len(all.powers(first, k)) > 0 {
				first++
			}
			got := results(impl.FirstVanishing(p, k))
			d, code := firstByPowerSums(p, k)
			expectCode(t, "FirstVanishing", got, code)
			expectCode(t, "FirstVanishing", got, codeOfPowers(p, first, 0, k))
			if code == impl.ErrNone {
				expect(t, "FirstVanishing", got, d)
				expect(t, "FirstVanishing", got, first)
				expect(t, "FirstVanishing", got, lastSummed(p, k)+1)
			}
		}
	}
}

// For these k the powers are too great before a sum is 0. Degrees with too many polynomials are never
// reached, as no k has digits enough for them.
func TestFirstVanishingAtMaxDegree(t *testing.T) {
	tooGreat := map[int64][]int64{
		2: {15, 19, 21, 22, 23, 24, 25, 26, 27, 28, 29, 30, 31, 32, 33, 34, 35, 36, 37, 38, 39, 40},
		3: {22, 23, 24, 25, 26, 32, 33, 34, 35, 36, 37, 38, 39, 40},
		5: {24, 32, 33, 34, 36, 37, 38, 39, 40},
		7: {32, 33, 34, 36, 37, 38, 39, 40},
	}
	for _, p := range primes {
		codes := map[int64]int64{}
		for _, k := range tooGreat[p] {
			codes[k] = impl.ErrLimit
		}
		for k := int64(1); k <= impl.MaxExponent; k++ {
			expectCode(t, "FirstVanishing", results(impl.FirstVanishing(p, k)), codes[k])
		}
	}
}

func TestFirstVanishingByHand(t *testing.T) {
	expect(t, "FirstVanishing", results(impl.FirstVanishing(2, 1)), int64(2))
	expect(t, "FirstVanishing", results(impl.FirstVanishing(2, 2)), int64(2))
	expect(t, "FirstVanishing", results(impl.FirstVanishing(2, 7)), int64(4))
	expect(t, "FirstVanishing", results(impl.FirstVanishing(2, 14)), int64(4))
	expect(t, "FirstVanishing", results(impl.FirstVanishing(2, 20)), int64(3))
	expect(t, "FirstVanishing", results(impl.FirstVanishing(3, 1)), int64(1))
	expect(t, "FirstVanishing", results(impl.FirstVanishing(3, 2)), int64(2))
	expect(t, "FirstVanishing", results(impl.FirstVanishing(3, 31)), int64(2))
	expect(t, "FirstVanishing", results(impl.FirstVanishing(3, 21)), int64(2))
	expect(t, "FirstVanishing", results(impl.FirstVanishing(5, 3)), int64(1))
	expect(t, "FirstVanishing", results(impl.FirstVanishing(5, 4)), int64(2))
	expect(t, "FirstVanishing", results(impl.FirstVanishing(5, 23)), int64(2))
	expect(t, "FirstVanishing", results(impl.FirstVanishing(7, 35)), int64(1))
	expect(t, "FirstVanishing", results(impl.FirstVanishing(7, 6)), int64(2))
}
