package tests

import (
	"slices"
	"testing"

	"loop.example/g01245/impl"
)

// callsOfChapter9 has residues in lists that are too long, or of different lengths, numbers out of
// their ranges, and places that are not independent, so that what is no residue is seen to come
// first; and it has lists and numbers that would do.
func callsOfChapter9() []skewCall {
	type poly = impl.Poly
	type skews = []impl.Skew
	type polys = []impl.Poly
	return []skewCall{
		{"MooreMatrix", 0, 5, func(p int64, m poly, f skews, x polys) []any { return results(impl.MooreMatrix(p, m, x)) }},
		{"MooreMatrix", 0, 4, func(p int64, m poly, f skews, x polys) []any { return results(impl.MooreMatrix(p, m, x)) }},
		{"MooreMatrix of nothing", 0, 0, func(p int64, m poly, f skews, x polys) []any { return results(impl.MooreMatrix(p, m, x)) }},
		{"MooreDeterminant", 0, 5, func(p int64, m poly, f skews, x polys) []any { return results(impl.MooreDeterminant(p, m, x)) }},
		{"MooreDeterminant", 0, 4, func(p int64, m poly, f skews, x polys) []any { return results(impl.MooreDeterminant(p, m, x)) }},
		{"MooreDeterminant of nothing", 0, 0, func(p int64, m poly, f skews, x polys) []any { return results(impl.MooreDeterminant(p, m, x)) }},
		{"SpanOf", 0, 7, func(p int64, m poly, f skews, x polys) []any { return results(impl.SpanOf(p, m, x)) }},
		{"SpanOf nothing", 0, 0, func(p int64, m poly, f skews, x polys) []any { return results(impl.SpanOf(p, m, x)) }},
		{"DicksonOf", 0, 7, func(p int64, m poly, f skews, x polys) []any { return results(impl.DicksonOf(p, m, x)) }},
		{"DicksonOf nothing", 0, 0, func(p int64, m poly, f skews, x polys) []any { return results(impl.DicksonOf(p, m, x)) }},
		{"RankOfWord", 0, 5, func(p int64, m poly, f skews, x polys) []any { return results(impl.RankOfWord(p, m, x)) }},
		{"RankOfWord", 0, 4, func(p int64, m poly, f skews, x polys) []any { return results(impl.RankOfWord(p, m, x)) }},
		{"RankOfWord nothing", 0, 0, func(p int64, m poly, f skews, x polys) []any { return results(impl.RankOfWord(p, m, x)) }},
		{"RankDistance", 0, 10, func(p int64, m poly, f skews, x polys) []any { return results(impl.RankDistance(p, m, x[:5], x[5:])) }},
		{"RankDistance", 0, 5, func(p int64, m poly, f skews, x polys) []any { return results(impl.RankDistance(p, m, x[:2], x[2:])) }},
		{"RankDistance", 0, 4, func(p int64, m poly, f skews, x polys) []any { return results(impl.RankDistance(p, m, x[:2], x[2:])) }},
		{"RankDistance of nothing", 0, 0, func(p int64, m poly, f skews, x polys) []any { return results(impl.RankDistance(p, m, x, x)) }},
		{"EncodeRank", 0, 10, func(p int64, m poly, f skews, x polys) []any { return results(impl.EncodeRank(p, m, x[:5], x[5:])) }},
		{"EncodeRank", 0, 5, func(p int64, m poly, f skews, x polys) []any { return results(impl.EncodeRank(p, m, x[:2], x[2:])) }},
		{"EncodeRank", 0, 4, func(p int64, m poly, f skews, x polys) []any { return results(impl.EncodeRank(p, m, x[:2], x[2:])) }},
		{"EncodeRank without places", 0, 2, func(p int64, m poly, f skews, x polys) []any { return results(impl.EncodeRank(p, m, nil, x)) }},
		{"EncodeRank without a message", 0, 2, func(p int64, m poly, f skews, x polys) []any { return results(impl.EncodeRank(p, m, x, nil)) }},
		{"InterpolateSkew", 0, 10, func(p int64, m poly, f skews, x polys) []any {
			return results(impl.InterpolateSkew(p, m, x[:5], x[5:]))
		}},
		{"InterpolateSkew", 0, 5, func(p int64, m poly, f skews, x polys) []any {
			return results(impl.InterpolateSkew(p, m, x[:2], x[2:]))
		}},
		{"InterpolateSkew", 0, 4, func(p int64, m poly, f skews, x polys) []any {
			return results(impl.InterpolateSkew(p, m, x[:2], x[2:]))
		}},
		{"InterpolateSkew of nothing", 0, 0, func(p int64, m poly, f skews, x polys) []any { return results(impl.InterpolateSkew(p, m, x, x)) }},
		{"DecodeRank", 0, 10, func(p int64, m poly, f skews, x polys) []any { return results(impl.DecodeRank(p, m, x[:5], 0, x[5:])) }},
		{"DecodeRank", 0, 4, func(p int64, m poly, f skews, x polys) []any { return results(impl.DecodeRank(p, m, x[:2], -1, x[2:])) }},
		{"DecodeRank", 0, 4, func(p int64, m poly, f skews, x polys) []any { return results(impl.DecodeRank(p, m, x[:2], 1, x[2:])) }},
		{"DecodeRank", 0, 4, func(p int64, m poly, f skews, x polys) []any { return results(impl.DecodeRank(p, m, x[:3], 1, x[3:])) }},
		{"LeastRank", 0, 5, func(p int64, m poly, f skews, x polys) []any { return results(impl.LeastRank(p, m, x, 0)) }},
		{"LeastRank", 0, 3, func(p int64, m poly, f skews, x polys) []any { return results(impl.LeastRank(p, m, x, 4)) }},
		{"LeastRank", 0, 2, func(p int64, m poly, f skews, x polys) []any { return results(impl.LeastRank(p, m, x, 1)) }},
		{"IsCodeWord", 0, 10, func(p int64, m poly, f skews, x polys) []any { return results(impl.IsCodeWord(p, m, x[:5], 0, x[5:])) }},
		{"IsCodeWord", 0, 4, func(p int64, m poly, f skews, x polys) []any { return results(impl.IsCodeWord(p, m, x[:2], -1, x[2:])) }},
		{"IsCodeWord", 0, 4, func(p int64, m poly, f skews, x polys) []any { return results(impl.IsCodeWord(p, m, x[:2], 1, x[2:])) }},
		{"IsCodeWord", 0, 4, func(p int64, m poly, f skews, x polys) []any { return results(impl.IsCodeWord(p, m, x[:3], 1, x[3:])) }},
	}
}

// What would do is no help to what is no residue.
func TestWrongResiduesOfCodes(t *testing.T) {
	s := &sampler{state: 400}
	for _, p := range primes {
		for _, k := range towers(s, p) {
			for _, code := range s.rankCodes(k) {
				word := s.list(k, len(code.places))
				for _, x := range noResidues(k) {
					for at := range word {
						wrong := replaced(code.places, at, x)
						checkWrongInCode(t, code, wrong, word)
						checkWrongInCode(t, code, code.places, replaced(word, at, x))
						expectCode(t, "LeastRank", results(impl.LeastRank(p, k.m, wrong, code.coefficients())), impl.ErrInvalid)
					}
				}
			}
		}
	}
}

// replaced returns a list with another element at one place.
func replaced(list []impl.Poly, at int, x impl.Poly) []impl.Poly {
	list = slices.Clone(list)
	list[at] = x
	return list
}

// checkWrongInCode is for places and a word, one of which has something that is no residue.
func checkWrongInCode(t *testing.T, k rankCode, places, word []impl.Poly) {
	t.Helper()
	expectCode(t, "EncodeRank", results(impl.EncodeRank(k.p, k.m, places, word)), impl.ErrInvalid)
	expectCode(t, "InterpolateSkew", results(impl.InterpolateSkew(k.p, k.m, places, word)), impl.ErrInvalid)
	expectCode(t, "DecodeRank", results(impl.DecodeRank(k.p, k.m, places, k.coefficients(), word)), impl.ErrInvalid)
	expectCode(t, "IsCodeWord", results(impl.IsCodeWord(k.p, k.m, places, k.coefficients(), word)), impl.ErrInvalid)
	expectCode(t, "RankDistance", results(impl.RankDistance(k.p, k.m, places, word)), impl.ErrInvalid)
	expectCode(t, "RankDistance", results(impl.RankDistance(k.p, k.m, word, places)), impl.ErrInvalid)
	both := slices.Concat(places, word)
	expectCode(t, "SpanOf", results(impl.SpanOf(k.p, k.m, both)), impl.ErrInvalid)
	expectCode(t, "DicksonOf", results(impl.DicksonOf(k.p, k.m, both)), impl.ErrInvalid)
}

// Words have at most MaxPlaces residues, also where their number would be less if it were cut to
// fewer bits. Spans are those of any number of residues.
func TestListsOfChapter9OutOfRange(t *testing.T) {
	s := &sampler{state: 401}
	for _, p := range primes {
		for _, k := range towers(s, p) {
			for _, n := range []int{0, 1, 2, 3, 4, 5, 6, 9, 256, 258, 260} {
				want := int64(impl.ErrNone)
				if n > impl.MaxPlaces {
					want = impl.ErrRange
				}
				for _, list := range [][]impl.Poly{make([]impl.Poly, n), s.list(k, n)} {
					expectCode(t, "MooreMatrix", results(impl.MooreMatrix(p, k.m, list)), want)
					expectCode(t, "MooreDeterminant", results(impl.MooreDeterminant(p, k.m, list)), want)
					expectCode(t, "RankOfWord", results(impl.RankOfWord(p, k.m, list)), want)
					expectCode(t, "RankDistance", results(impl.RankDistance(p, k.m, list, list)), want)
					expectCode(t, "SpanOf", results(impl.SpanOf(p, k.m, list)), impl.ErrNone)
					expectCode(t, "DicksonOf", results(impl.DicksonOf(p, k.m, list)), impl.ErrNone)
				}
			}
			for n := range 7 {
				for other := range 7 {
					if n != other {
						v, w := s.list(k, n), s.list(k, other)
						expectCode(t, "RankDistance", results(impl.RankDistance(p, k.m, v, w)), impl.ErrRange)
					}
				}
			}
		}
	}
}

// numbersOfCoefficients are in the range for some places, or are not; some of them are cut to
// numbers in it.
func numbersOfCoefficients(n int) []int64 {
	list := append([]int64{0, 1, int64(n) - 1, int64(n), int64(n) + 1, 5, 6, -4, 256, 257, 258}, extremes...)
	return append(list, 1<<32+1, 1<<32+2, 1<<16+1, 1<<33+4, -1<<32+1, -1<<63+1)
}

// expectRefused expects ErrNone only where want is that; for a decoding it may be ErrNotFound too.
func expectRefused(t *testing.T, k rankCode, word []impl.Poly, number, want int64) {
	t.Helper()
	got := results(impl.DecodeRank(k.p, k.m, k.places, number, word))
	if want != impl.ErrNone || got[1] != int64(impl.ErrNotFound) {
		expectCode(t, "DecodeRank", got, want)
	}
	expectCode(t, "IsCodeWord", results(impl.IsCodeWord(k.p, k.m, k.places, number, word)), want)
}

// codeFor returns the code of an error that a function of these places, and of lists and numbers that
// are as told or not, has to return.
func codeFor(k *tower, places []impl.Poly, areTold bool) int64 {
	n := len(places)
	switch {
	case n < 1 || n > impl.MaxPlaces || !areTold:
		return impl.ErrRange
	case k.rank(places) < n:
		return impl.ErrState
	}
	return impl.ErrNone
}

// Ranges come before places that are not independent, and these before what cannot be decoded.
func TestErrorsOfCodesInOrder(t *testing.T) {
	s := &sampler{state: 402}
	for _, p := range primes {
		for _, k := range towers(s, p) {
			for n := range 7 {
				lists := [][]impl.Poly{make([]impl.Poly, n), slices.Repeat([]impl.Poly{s.unit(k)}, n)}
				if n > 0 {
					lists = append(lists, s.dependent(k, n))
				}
				if n <= k.degree() {
					lists = append(lists, s.independent(k, n))
				}
				for _, places := range lists {
					checkErrorsOfCode(t, s, k, places)
				}
			}
		}
	}
}

// checkErrorsOfCode tries lists and numbers in their ranges, and next to them.
func checkErrorsOfCode(t *testing.T, s *sampler, k *tower, places []impl.Poly) {
	t.Helper()
	n := len(places)
	for length := range 7 {
		for _, word := range [][]impl.Poly{make([]impl.Poly, length), s.list(k, length)} {
			want := codeFor(k, places, length >= 1 && length <= n)
			expectCode(t, "EncodeRank", results(impl.EncodeRank(k.p, k.m, places, word)), want)
			want = codeFor(k, places, length == n)
			expectCode(t, "InterpolateSkew", results(impl.InterpolateSkew(k.p, k.m, places, word)), want)
			for _, number := range numbersOfCoefficients(n) {
				want := codeFor(k, places, length == n && number >= 1 && number <= int64(n))
				expectRefused(t, rankCode{k, places, 0}, word, number, want)
			}
		}
	}
	for _, number := range numbersOfCoefficients(n) {
		want := codeFor(k, places, number >= 1 && number <= int64(n))
		expectCode(t, "LeastRank", results(impl.LeastRank(k.p, k.m, places, number)), want)
	}
}

// More places than the degree of the field are never independent.
func TestMorePlacesThanTheDegree(t *testing.T) {
	s := &sampler{state: 403}
	for _, p := range primes {
		for _, k := range towers(s, p) {
			for n := k.degree() + 1; n <= impl.MaxPlaces; n++ {
				places := append(s.independent(k, k.degree()), s.list(k, n-k.degree())...)
				for number := int64(1); number <= int64(n); number++ {
					for _, word := range [][]impl.Poly{make([]impl.Poly, n), places, s.list(k, n)} {
						expectRefused(t, rankCode{k, places, 0}, word, number, impl.ErrState)
						expectCode(t, "InterpolateSkew", results(impl.InterpolateSkew(p, k.m, places, word)), impl.ErrState)
						expectCode(t, "EncodeRank", results(impl.EncodeRank(p, k.m, places, word[:number])), impl.ErrState)
					}
					expectCode(t, "LeastRank", results(impl.LeastRank(p, k.m, places, number)), impl.ErrState)
				}
			}
		}
	}
}
