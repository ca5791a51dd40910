package tests

import (
	"slices"
	"strconv"
	"testing"

	"loop.example/g01245/impl"
)

// call is a function with everything but its prime and its polynomials given.
type call struct {
	name  string
	polys int
	run   func(p int64, a []impl.Poly) []any
}

// callsOfChapter1 has numbers out of their ranges, and texts that are none, so that an error in
// the prime or in a polynomial is seen to come first.
func callsOfChapter1() []call {
	type polys = []impl.Poly
	return []call{
		{"DegreeOf", 1, func(p int64, a polys) []any { return results(impl.DegreeOf(p, a[0])) }},
		{"AddPolys", 2, func(p int64, a polys) []any { return results(impl.AddPolys(p, a[0], a[1])) }},
		{"SubtractPolys", 2, func(p int64, a polys) []any { return results(impl.SubtractPolys(p, a[0], a[1])) }},
		{"MultiplyPolys", 2, func(p int64, a polys) []any { return results(impl.MultiplyPolys(p, a[0], a[1])) }},
		{"DividePolys", 2, func(p int64, a polys) []any { return results(impl.DividePolys(p, a[0], a[1])) }},
		{"GcdOf", 2, func(p int64, a polys) []any { return results(impl.GcdOf(p, a[0], a[1])) }},
		{"BezoutOf", 2, func(p int64, a polys) []any { return results(impl.BezoutOf(p, a[0], a[1])) }},
		{"ValueAt", 1, func(p int64, a polys) []any { return results(impl.ValueAt(p, a[0], -1)) }},
		{"RootsOf", 1, func(p int64, a polys) []any { return results(impl.RootsOf(p, a[0])) }},
		{"DerivativeOf", 1, func(p int64, a polys) []any { return results(impl.DerivativeOf(p, a[0])) }},
		{"PowerOf", 1, func(p int64, a polys) []any { return results(impl.PowerOf(p, a[0], -1)) }},
		{"PowerModulo", 2, func(p int64, a polys) []any { return results(impl.PowerModulo(p, a[0], -1, a[1])) }},
		{"ComposePolys", 2, func(p int64, a polys) []any { return results(impl.ComposePolys(p, a[0], a[1])) }},
		{"MonicPolys", 0, func(p int64, a polys) []any { return results(impl.MonicPolys(p, -1)) }},
		{"NumberOfPoly", 1, func(p int64, a polys) []any { return results(impl.NumberOfPoly(p, a[0])) }},
		{"PolyOfNumber", 0, func(p int64, a polys) []any { return results(impl.PolyOfNumber(p, -1)) }},
		{"PolyText", 1, func(p int64, a polys) []any { return results(impl.PolyText(p, a[0])) }},
		{"ParsePoly", 0, func(p int64, a polys) []any { return results(impl.ParsePoly(p, "x")) }},
	}
}

func allCalls() []call {
	return slices.Concat(callsOfChapter1(), callsOfChapter2(), callsOfChapter4(), callsOfChapter5(), callsOfChapter6(), callsOfChapter7(), callsOfChapter8(), callsOfChapter10())
}

func TestWrongPrimesComeFirst(t *testing.T) {
	for _, c := range allCalls() {
		for _, p := range notPrimes {
			name := c.name + " for " + strconv.FormatInt(p, 10)
			expectCode(t, name, c.run(p, make([]impl.Poly, c.polys)), impl.ErrInvalid)
			wide := make([]impl.Poly, c.polys)
			for i := range wide {
				wide[i] = monomial(63)
			}
			expectCode(t, name, c.run(p, wide), impl.ErrInvalid)
		}
	}
}

// The other polynomial is 0, or so great that a result would be too great: both come later.
func TestWrongPolysComeFirst(t *testing.T) {
	for _, c := range allCalls() {
		for _, p := range primes {
			for place := range c.polys {
				for _, at := range []int{0, 1, 62, 63} {
					for _, other := range []impl.Poly{{}, full(p, 63)} {
						list := slices.Repeat([]impl.Poly{other}, c.polys)
						list[place][at] = byte(p)
						expectCode(t, c.name, c.run(p, list), impl.ErrInvalid)
						list[place][at] = 255
						expectCode(t, c.name, c.run(p, list), impl.ErrInvalid)
					}
				}
			}
		}
	}
}

func TestRangesComeBeforeTheRest(t *testing.T) {
	for _, p := range primes {
		great := monomial(63)
		for _, k := range []int64{-1, impl.MaxNumber + 1} {
			expectCode(t, "PowerOf", results(impl.PowerOf(p, great, k)), impl.ErrRange)
			expectCode(t, "PowerModulo", results(impl.PowerModulo(p, great, k, impl.Poly{})), impl.ErrRange)
		}
		expectCode(t, "MonicPolys", results(impl.MonicPolys(p, 64)), impl.ErrRange)
		expectCode(t, "MonicPolys", results(impl.MonicPolys(p, 63)), impl.ErrLimit)
	}
}
