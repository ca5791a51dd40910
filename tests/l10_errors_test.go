package tests

import (
	"slices"
	"testing"

	"loop.example/g01245/impl"
)

// callsOfChapter10 has numbers that are out of their ranges, or in them, and lists of too many
// polynomials, so that what is no polynomial is seen to come first.
func callsOfChapter10() []call {
	type polys = []impl.Poly
	return []call{
		{"DigitsOfQuotient", 2, func(p int64, a polys) []any { return results(impl.DigitsOfQuotient(p, a[0], a[1], -1)) }},
		{"DigitsOfQuotient", 2, func(p int64, a polys) []any { return results(impl.DigitsOfQuotient(p, a[0], a[1], 3)) }},
		{"DigitsOfQuotient", 2, func(p int64, a polys) []any { return results(impl.DigitsOfQuotient(p, a[0], a[1], 41)) }},
		{"ContinuedFraction", 2, func(p int64, a polys) []any { return results(impl.ContinuedFraction(p, a[0], a[1])) }},
		{"ConvergentsOf nothing", 0, func(p int64, a polys) []any { return results(impl.ConvergentsOf(p, a)) }},
		{"ConvergentsOf", 3, func(p int64, a polys) []any { return results(impl.ConvergentsOf(p, a)) }},
		{"ConvergentsOf", 30, func(p int64, a polys) []any { return results(impl.ConvergentsOf(p, a)) }},
		{"ConvergentsOf", 31, func(p int64, a polys) []any { return results(impl.ConvergentsOf(p, a)) }},
		{"BestApproximation", 2, func(p int64, a polys) []any { return results(impl.BestApproximation(p, a[0], a[1], -1)) }},
		{"BestApproximation", 2, func(p int64, a polys) []any { return results(impl.BestApproximation(p, a[0], a[1], 3)) }},
		{"BestApproximation", 2, func(p int64, a polys) []any { return results(impl.BestApproximation(p, a[0], a[1], 64)) }},
		{"DegreesOfPartials", 2, func(p int64, a polys) []any { return results(impl.DegreesOfPartials(p, a[0], a[1])) }},
		{"RootPart", 1, func(p int64, a polys) []any { return results(impl.RootPart(p, a[0])) }},
		{"DigitsOfRoot", 1, func(p int64, a polys) []any { return results(impl.DigitsOfRoot(p, a[0], -1)) }},
		{"DigitsOfRoot", 1, func(p int64, a polys) []any { return results(impl.DigitsOfRoot(p, a[0], 3)) }},
		{"DigitsOfRoot", 1, func(p int64, a polys) []any { return results(impl.DigitsOfRoot(p, a[0], 41)) }},
		{"IsSquarePoly", 1, func(p int64, a polys) []any { return results(impl.IsSquarePoly(p, a[0])) }},
		{"ExponentialUpTo", 2, func(p int64, a polys) []any { return results(impl.ExponentialUpTo(p, a[0], a[1], 0)) }},
		{"ExponentialUpTo", 2, func(p int64, a polys) []any { return results(impl.ExponentialUpTo(p, a[0], a[1], 4)) }},
		{"ExponentialUpTo", 2, func(p int64, a polys) []any { return results(impl.ExponentialUpTo(p, a[0], a[1], 5)) }},
		{"LogarithmUpTo", 2, func(p int64, a polys) []any { return results(impl.LogarithmUpTo(p, a[0], a[1], 0)) }},
		{"LogarithmUpTo", 2, func(p int64, a polys) []any { return results(impl.LogarithmUpTo(p, a[0], a[1], 4)) }},
		{"LogarithmUpTo", 2, func(p int64, a polys) []any { return results(impl.LogarithmUpTo(p, a[0], a[1], 5)) }},
	}
}

// What else is wrong with a polynomial that would do does not come first either.
func TestWrongCoefficientsOfChapter10(t *testing.T) {
	for _, p := range primes {
		for _, at := range []int{0, 1, 2, 4, 30, 61, 62, 63} {
			for _, c := range []byte{byte(p), byte(p) + 1, 2*byte(p) + 1, 255} {
				for _, wrong := range []impl.Poly{{}, monomial(4), monomial(62)} {
					wrong[at] = c
					expectCode(t, "RootPart", results(impl.RootPart(p, wrong)), impl.ErrInvalid)
					expectCode(t, "IsSquarePoly", results(impl.IsSquarePoly(p, wrong)), impl.ErrInvalid)
					for _, n := range numbersOfChapter10() {
						expectCode(t, "DigitsOfRoot", results(impl.DigitsOfRoot(p, wrong, n)), impl.ErrInvalid)
						for _, x := range []impl.Poly{{}, {1}, monomial(62), monomial(63)} {
							expectAllInvalid(t, p, quotient{wrong, x}, n)
							expectAllInvalid(t, p, quotient{x, wrong}, n)
						}
					}
				}
			}
		}
	}
}

// numbersOfChapter10 are in the range of some functions, or of none; some of them become numbers in it
// if they are cut to fewer bits.
func numbersOfChapter10() []int64 {
	return append([]int64{0, 1, 2, 4, 5, 40, 41, 63, 64, 100, 256, 1<<8 + 1, 1 << 16, 1<<32 + 1}, extremes...)
}

func expectAllInvalid(t *testing.T, p int64, k quotient, n int64) {
	t.Helper()
	for _, got := range [][]any{
		results(impl.DigitsOfQuotient(p, k.a, k.b, n)), results(impl.BestApproximation(p, k.a, k.b, n)),
		results(impl.ExponentialUpTo(p, k.a, k.b, n)), results(impl.LogarithmUpTo(p, k.a, k.b, n)),
		results(impl.ContinuedFraction(p, k.a, k.b)), results(impl.DegreesOfPartials(p, k.a, k.b)),
	} {
		expectCode(t, "a function of a and b", got, impl.ErrInvalid)
	}
}

// Numbers and degrees out of range come before b as 0, and this before what is too great.
func TestErrorsOfQuotientsInOrder(t *testing.T) {
	s := &sampler{state: 540}
	for _, p := range primes {
		for _, m := range []int{-1, 0, 1, 2, 61, 62, 63} {
			for _, l := range []int{-1, 0, 1, 2, 61, 62, 63} {
				k := quotient{s.poly(p, m), s.poly(p, l)}
				for _, n := range numbersOfChapter10() {
					digits := codeOfQuotient(k, n >= 0 && n <= impl.MaxDigits && max(m, l) <= 62)
					best := codeOfQuotient(k, n >= 0 && n <= impl.MaxDegree)
					partials := codeOfQuotient(k, true)
					expectCode(t, "DigitsOfQuotient", results(impl.DigitsOfQuotient(p, k.a, k.b, n)), digits)
					expectCode(t, "BestApproximation", results(impl.BestApproximation(p, k.a, k.b, n)), best)
					expectCode(t, "ContinuedFraction", results(impl.ContinuedFraction(p, k.a, k.b)), partials)
					expectCode(t, "DegreesOfPartials", results(impl.DegreesOfPartials(p, k.a, k.b)), partials)
					for _, e := range bothSeries() {
						want := codeOfQuotient(k, n >= 1 && n <= 4)
						if want == impl.ErrNone && !e.fits(p, k, n) {
							want = impl.ErrLimit
						}
						expectCode(t, e.name, results(e.of(p, k.a, k.b, n)), want)
					}
				}
			}
		}
	}
}

func codeOfQuotient(k quotient, inRange bool) int64 {
	switch {
	case !inRange:
		return impl.ErrRange
	case k.b == (impl.Poly{}):
		return impl.ErrState
	}
	return impl.ErrNone
}

// The ends of each range, with polynomials that would do.
func TestNumbersOfChapter10(t *testing.T) {
	for _, p := range primes {
		a, b := impl.Poly{0, byte(p - 1)}, impl.Poly{byte(p - 1)}
		for _, n := range []int64{-1, 0, 1, 2, 39, 40, 41, 42, 62, 63, 64, 65, 296, 320} {
			within := func(least, most int64) int64 {
				if n < least || n > most {
					return impl.ErrRange
				}
				return impl.ErrNone
			}
			expectCode(t, "DigitsOfQuotient", results(impl.DigitsOfQuotient(p, a, b, n)), within(0, 40))
			expectCode(t, "BestApproximation", results(impl.BestApproximation(p, a, b, n)), within(0, 63))
			if p > 2 {
				expectCode(t, "DigitsOfRoot", results(impl.DigitsOfRoot(p, impl.Poly{1}, n)), within(0, 40))
				expectCode(t, "DigitsOfRoot", results(impl.DigitsOfRoot(p, monomial(62), n)), within(0, 40))
			}
		}
	}
	for _, e := range bothSeries() {
		for n := int64(-2); n <= 8; n++ {
			want := int64(impl.ErrNone)
			if n < 1 || n > 4 {
				want = impl.ErrRange
			}
			expectCode(t, e.name, results(e.of(2, impl.Poly{1}, impl.Poly{1}, n)), want)
			expectCode(t, e.name, results(e.of(7, monomial(63), monomial(63), n+7)), impl.ErrRange)
		}
	}
}

// Lists of no polynomials and of more than MaxPartials are refused, also where their convergents would
// be too great, and where their number is in the range if it is cut to fewer bits.
func TestListsOfChapter10OutOfRange(t *testing.T) {
	s := &sampler{state: 541}
	for _, p := range primes {
		for _, count := range []int{0, 1, 2, 29, 30, 31, 32, 63, 64, 255, 256, 257, 286, 1 << 16, 1<<16 + 2} {
			want, great := int64(impl.ErrNone), int64(impl.ErrLimit)
			if count < 1 || count > impl.MaxPartials {
				want, great = impl.ErrRange, impl.ErrRange
			}
			expectCode(t, "ConvergentsOf", results(impl.ConvergentsOf(p, make([]impl.Poly, count))), want)
			expectCode(t, "ConvergentsOf", results(impl.ConvergentsOf(p, s.actions(p, count, 1))), want)
			if count != 1 {
				list := slices.Repeat([]impl.Poly{full(p, 63)}, count)
				expectCode(t, "ConvergentsOf", results(impl.ConvergentsOf(p, list)), great)
			}
			// What is no polynomial comes first, wherever it is.
			for _, at := range []int{0, count / 2, count - 1} {
				if count > 0 {
					list := make([]impl.Poly, count)
					list[at][s.below(64)] = byte(p)
					expectCode(t, "ConvergentsOf", results(impl.ConvergentsOf(p, list)), impl.ErrInvalid)
				}
			}
		}
		expectCode(t, "ConvergentsOf", results(impl.ConvergentsOf(p, nil)), impl.ErrRange)
		expectCode(t, "ConvergentsOf", results(impl.ConvergentsOf(p, []impl.Poly{})), impl.ErrRange)
	}
}

func isSquareCase(p int64, d impl.Poly) bool {
	n := degreeOf(d)
	return p > 2 && n >= 0 && n%2 == 0 && d[n] == 1
}

// No polynomial for 2 is a square case, not even a square.
func TestWhatIsNoSquareCase(t *testing.T) {
	s := &sampler{state: 542}
	for _, p := range primes {
		list := []impl.Poly{{}}
		for n := range impl.MaxDegree + 1 {
			list = append(list, monomial(n), full(p, n), s.monic(p, n), s.poly(p, n))
			for c := byte(1); c < byte(p); c++ {
				list = append(list, plusTimes(p, impl.Poly{}, c, monomial(n)))
				if r := s.monic(p, n/2); n%2 == 0 {
					list = append(list, product(t, p, r, r, impl.Poly{c}))
				}
			}
		}
		for _, d := range list {
			want := int64(impl.ErrRange)
			if isSquareCase(p, d) {
				want = impl.ErrNone
			}
			expectCode(t, "RootPart", results(impl.RootPart(p, d)), want)
			expectCode(t, "IsSquarePoly", results(impl.IsSquarePoly(p, d)), want)
			for _, n := range []int64{0, 1, 40} {
				expectCode(t, "DigitsOfRoot", results(impl.DigitsOfRoot(p, d, n)), want)
			}
			for _, n := range append([]int64{41, 64, 296, 1 << 33}, extremes...) {
				expectCode(t, "DigitsOfRoot", results(impl.DigitsOfRoot(p, d, n)), impl.ErrRange)
			}
		}
	}
}
