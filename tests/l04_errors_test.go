package tests

import (
	"slices"
	"testing"

	"loop.example/g01245/impl"
)

// callsOfChapter4 has numbers out of their ranges, and lists that are too long, as
// callsOfChapter1 has.
func callsOfChapter4() []call {
	type polys = []impl.Poly
	return []call{
		{"ActionOf", 1, func(p int64, a polys) []any { return results(impl.ActionOf(p, a[0])) }},
		{"BinomialOf", 1, func(p int64, a polys) []any { return results(impl.BinomialOf(p, a[0], -1)) }},
		{"ActOnResidue", 3, func(p int64, a polys) []any { return results(impl.ActOnResidue(p, a[0], a[1], a[2])) }},
		{"AddActions", 4, func(p int64, a polys) []any { return results(impl.AddActions(p, a[:2], a[2:])) }},
		{"AddActions", 8, func(p int64, a polys) []any { return results(impl.AddActions(p, a, nil)) }},
		{"AddActions", 8, func(p int64, a polys) []any { return results(impl.AddActions(p, nil, a)) }},
		{"ComposeActions", 4, func(p int64, a polys) []any { return results(impl.ComposeActions(p, a[:2], a[2:])) }},
		{"ComposeActions", 8, func(p int64, a polys) []any { return results(impl.ComposeActions(p, a, nil)) }},
		{"ComposeActions", 8, func(p int64, a polys) []any { return results(impl.ComposeActions(p, nil, a)) }},
		{"BracketOf", 0, func(p int64, a polys) []any { return results(impl.BracketOf(p, 0)) }},
		{"FirstFactorial", 0, func(p int64, a polys) []any { return results(impl.FirstFactorial(p, -1)) }},
		{"SecondFactorial", 0, func(p int64, a polys) []any { return results(impl.SecondFactorial(p, -1)) }},
		{"CarlitzFactorial", 0, func(p int64, a polys) []any { return results(impl.CarlitzFactorial(p, -1)) }},
		{"TorsionNumber", 2, func(p int64, a polys) []any { return results(impl.TorsionNumber(p, a[0], a[1])) }},
		{"AnnihilatorOf", 2, func(p int64, a polys) []any { return results(impl.AnnihilatorOf(p, a[0], a[1])) }},
		{"ExponentOf", 1, func(p int64, a polys) []any { return results(impl.ExponentOf(p, a[0])) }},
		{"CarlitzGenerator", 1, func(p int64, a polys) []any { return results(impl.CarlitzGenerator(p, a[0])) }},
		{"DeepRest", 2, func(p int64, a polys) []any { return results(impl.DeepRest(p, a[0], a[1])) }},
	}
}

// Numbers in their ranges do not make up for a wrong prime either.
func TestWrongPrimesWithNumbersInRange(t *testing.T) {
	for _, p := range notPrimes {
		for _, n := range []int64{0, 1, 2, 6, 7, 1000} {
			expectCode(t, "BinomialOf", results(impl.BinomialOf(p, impl.Poly{0, 1}, n)), impl.ErrInvalid)
			expectCode(t, "BracketOf", results(impl.BracketOf(p, n)), impl.ErrInvalid)
			expectCode(t, "FirstFactorial", results(impl.FirstFactorial(p, n)), impl.ErrInvalid)
			expectCode(t, "SecondFactorial", results(impl.SecondFactorial(p, n)), impl.ErrInvalid)
			expectCode(t, "CarlitzFactorial", results(impl.CarlitzFactorial(p, n)), impl.ErrInvalid)
		}
		expectCode(t, "AddActions", results(impl.AddActions(p, nil, nil)), impl.ErrInvalid)
		expectCode(t, "ComposeActions", results(impl.ComposeActions(p, nil, nil)), impl.ErrInvalid)
	}
}

// The polynomials and residues are 0, units, and greater than every modulus.
func TestWhatIsNoModulusForActions(t *testing.T) {
	for _, p := range primes {
		for _, m := range noModuli(p) {
			expectCode(t, "ExponentOf", results(impl.ExponentOf(p, m)), impl.ErrRange)
			expectCode(t, "CarlitzGenerator", results(impl.CarlitzGenerator(p, m)), impl.ErrRange)
			for _, a := range []impl.Poly{{}, {1}, monomial(1), full(p, 63)} {
				expectCode(t, "TorsionNumber", results(impl.TorsionNumber(p, a, m)), impl.ErrRange)
				expectCode(t, "AnnihilatorOf", results(impl.AnnihilatorOf(p, a, m)), impl.ErrRange)
				expectCode(t, "DeepRest", results(impl.DeepRest(p, a, m)), impl.ErrRange)
				for _, x := range []impl.Poly{{}, {1}, full(p, 63)} {
					expectCode(t, "ActOnResidue", results(impl.ActOnResidue(p, a, x, m)), impl.ErrRange)
				}
			}
		}
	}
}

// Greater degrees come before polynomials that would be too great.
func TestDegreesOfActionsOutOfRange(t *testing.T) {
	s := &sampler{state: 71}
	for _, p := range primes {
		for n := impl.MaxAction + 1; n <= impl.MaxDegree; n++ {
			for _, a := range []impl.Poly{monomial(n), full(p, n), s.poly(p, n)} {
				expectCode(t, "ActionOf", results(impl.ActionOf(p, a)), impl.ErrRange)
				for _, i := range []int64{-1, 0, 1, 6, 7} {
					expectCode(t, "BinomialOf", results(impl.BinomialOf(p, a, i)), impl.ErrRange)
				}
			}
		}
	}
}

func TestNumbersOfChapter4OutOfRange(t *testing.T) {
	for _, p := range primes {
		for _, i := range append([]int64{7, 8, 63, 64, 1000, -6}, extremes...) {
			// For all but 2, what the last two would be is too great.
			for _, a := range []impl.Poly{{}, {1}, {0, 1}, monomial(5), monomial(6)} {
				expectCode(t, "BinomialOf", results(impl.BinomialOf(p, a, i)), impl.ErrRange)
			}
			expectCode(t, "BracketOf", results(impl.BracketOf(p, i)), impl.ErrRange)
			expectCode(t, "FirstFactorial", results(impl.FirstFactorial(p, i)), impl.ErrRange)
			expectCode(t, "SecondFactorial", results(impl.SecondFactorial(p, i)), impl.ErrRange)
		}
		expectCode(t, "BracketOf", results(impl.BracketOf(p, 0)), impl.ErrRange)
		for _, n := range []int64{-1, 1001, 1002, -1000, 1<<63 - 1, -1 << 63, 1 << 32, 1<<32 + 3, -1 << 32} {
			expectCode(t, "CarlitzFactorial", results(impl.CarlitzFactorial(p, n)), impl.ErrRange)
		}
	}
}

// The lists hold zeros alone, or polynomials whose products would be too great.
func TestListsThatAreTooLong(t *testing.T) {
	for _, p := range primes {
		for _, x := range []impl.Poly{{}, {1}, full(p, 63)} {
			for _, count := range []int{impl.MaxAction + 2, impl.MaxAction + 3, 100} {
				long := slices.Repeat([]impl.Poly{x}, count)
				for _, other := range [][]impl.Poly{nil, {{}}, {full(p, 63)}, long[:impl.MaxAction+1], long} {
					expectCode(t, "AddActions", results(impl.AddActions(p, long, other)), impl.ErrRange)
					expectCode(t, "AddActions", results(impl.AddActions(p, other, long)), impl.ErrRange)
					expectCode(t, "ComposeActions", results(impl.ComposeActions(p, long, other)), impl.ErrRange)
					expectCode(t, "ComposeActions", results(impl.ComposeActions(p, other, long)), impl.ErrRange)
				}
			}
		}
	}
}

// What has a wrong degree is told before what is reducible.
func TestWhatHasNoDeepRests(t *testing.T) {
	s := &sampler{state: 72}
	for _, p := range primes {
		for _, x := range []impl.Poly{{}, {1}, monomial(1), full(p, 63)} {
			for _, m := range moduli(p, 5, 200) {
				got := results(impl.DeepRest(p, x, m))
				switch {
				case degreeOf(m) > 3:
					expectCode(t, "DeepRest", got, impl.ErrRange)
				case !isPrimePoly(p, m):
					expectCode(t, "DeepRest", got, impl.ErrState)
				default:
					expectCode(t, "DeepRest", got, impl.ErrNone)
				}
				for c := byte(2); c < byte(p); c++ {
					scaled := plusTimes(p, impl.Poly{}, c, m)
					expectCode(t, "DeepRest", results(impl.DeepRest(p, x, scaled)), impl.ErrRange)
				}
			}
			for n := 4; n <= 8; n++ {
				expectCode(t, "DeepRest", results(impl.DeepRest(p, x, s.irreducible(p, n))), impl.ErrRange)
				expectCode(t, "DeepRest", results(impl.DeepRest(p, x, monomial(n))), impl.ErrRange)
			}
		}
	}
}
