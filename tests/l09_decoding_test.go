package tests

import (
	"slices"
	"testing"

	"loop.example/g01245/impl"
)

// codeLimit bounds the words of codes that are searched through.
const codeLimit = 5000

// messages returns lists of as many coefficients as the code has: zeros, single ones, and samples.
func (s *sampler) messages(k rankCode) [][]impl.Poly {
	lists := [][]impl.Poly{make([]impl.Poly, k.size)}
	for i := range k.size {
		lists = append(lists, replaced(lists[0], i, impl.Poly{1}), replaced(lists[0], i, s.unit(k.tower)))
	}
	return append(lists, s.list(k.tower, k.size), s.list(k.tower, k.size))
}

func TestEncodeRank(t *testing.T) {
	s := &sampler{state: 420}
	for _, p := range primes {
		for _, k := range towers(s, p) {
			for _, c := range s.rankCodes(k) {
				for _, message := range s.messages(c) {
					var want []impl.Poly
					for _, x := range c.places {
						want = append(want, must[impl.Poly](t)(impl.ValueOfSkew(p, k.m, skewOf(message), x)))
					}
					if !slices.Equal(want, c.encoded(message)) {
						t.Errorf("%d, %v: %v at %v is %v", p, k.m, message, c.places, want)
					}
					expect(t, "EncodeRank", results(impl.EncodeRank(p, k.m, c.places, message)), want)
				}
			}
		}
	}
}

func TestEncodingByHand(t *testing.T) {
	m := poly("111")
	expect(t, "EncodeRank", results(impl.EncodeRank(2, m, polys("1", "10"), polys("11"))), polys("11", "1"))
	expect(t, "EncodeRank", results(impl.EncodeRank(2, m, polys("1", "10"), polys("0", "1"))), polys("1", "11"))
	expect(t, "EncodeRank", results(impl.EncodeRank(2, m, polys("1", "10"), polys("11", "1"))), polys("10", "10"))
	expect(t, "EncodeRank", results(impl.EncodeRank(2, m, polys("10", "1"), polys("0"))), polys("0", "0"))
	expect(t, "EncodeRank", results(impl.EncodeRank(7, poly("13"), polys("3"), polys("5"))), polys("1"))
	// For 9 elements, T is led to T T + T (-T), which is 0, and 1 to T + T.
	expect(t, "EncodeRank", results(impl.EncodeRank(3, poly("101"), polys("10", "1"), polys("10", "10"))), polys("0", "20"))
}

// checkInterpolated relies on this: two skew polynomials of degrees less than n with the same values at n
// independent places are the same.
func checkInterpolated(t *testing.T, k rankCode, values []impl.Poly) {
	t.Helper()
	f, code := impl.InterpolateSkew(k.p, k.m, k.places, values)
	if code != impl.ErrNone || long(f).degree() >= len(k.places) {
		t.Errorf("InterpolateSkew(%d, %v, %v, %v) = %v, %d", k.p, k.m, k.places, values, f, code)
	}
	if !slices.Equal(k.encoded(f[:]), values) {
		t.Errorf("InterpolateSkew(%d, %v, %v, %v) = %v has the values %v", k.p, k.m, k.places, values, f, k.encoded(f[:]))
	}
}

func TestInterpolateSkew(t *testing.T) {
	s := &sampler{state: 421}
	for _, p := range primes {
		for _, k := range towers(s, p) {
			for _, c := range s.rankCodes(k) {
				n := len(c.places)
				for _, values := range [][]impl.Poly{make([]impl.Poly, n), c.places, s.list(k, n), s.independent(k, n), s.dependent(k, n)} {
					checkInterpolated(t, c, values)
				}
				for _, message := range s.messages(c) {
					want := skewOf(message)
					expect(t, "InterpolateSkew", results(impl.InterpolateSkew(p, k.m, c.places, c.encoded(message))), want)
				}
			}
		}
	}
	for n := 1; n <= 3; n++ {
		for _, k := range s.fieldsWithFew(2*n, 7000) {
			for _, values := range allLists(k, n) {
				for _, places := range allLists(k, n) {
					if k.rank(places) == n {
						checkInterpolated(t, rankCode{k, places, n}, values)
					}
				}
			}
		}
	}
}

func TestInterpolationsByHand(t *testing.T) {
	m := poly("111")
	expect(t, "InterpolateSkew", results(impl.InterpolateSkew(2, m, polys("1", "10"), polys("1", "11"))), impl.Skew{{}, {1}})
	expect(t, "InterpolateSkew", results(impl.InterpolateSkew(2, m, polys("1", "10"), polys("1", "10"))), impl.Skew{{1}})
	expect(t, "InterpolateSkew", results(impl.InterpolateSkew(2, m, polys("1", "10"), polys("0", "0"))), impl.Skew{})
	expect(t, "InterpolateSkew", results(impl.InterpolateSkew(5, poly("14"), polys("3"), polys("2"))), impl.Skew{{4}})
	// For 9 elements the sum of x and its Frobenius is -1 for 1, and 0 for T.
	expect(t, "InterpolateSkew", results(impl.InterpolateSkew(3, poly("101"), polys("10", "1"), polys("0", "2"))), impl.Skew{{1}, {1}})
}

// expectDecoded expects a decoding to a list, or, if this is nil, that there is none.
func expectDecoded(t *testing.T, k rankCode, word, want []impl.Poly) {
	t.Helper()
	got := results(impl.DecodeRank(k.p, k.m, k.places, k.coefficients(), word))
	if want == nil {
		expectCode(t, "DecodeRank", got, impl.ErrNotFound)
		return
	}
	expect(t, "DecodeRank", got, want)
}

// A word with an error of a small rank has a decoding. With a greater rank, it has none as long as
// each other word of the code is still farther away than that.
func TestDecodingWithErrors(t *testing.T) {
	s := &sampler{state: 422}
	for _, p := range primes {
		for _, k := range towers(s, p) {
			for _, c := range s.rankCodes(k) {
				n := len(c.places)
				least := n - c.size + 1
				for _, message := range s.messages(c) {
					for rank := range n + 1 {
						for range 3 {
							word := c.spoilt(c.encoded(message), s.ofRank(k, n, rank))
							switch {
							case rank <= c.most():
								expectDecoded(t, c, word, message)
							case rank < least-c.most():
								expectDecoded(t, c, word, nil)
							default:
								checkNear(t, c, word)
							}
						}
					}
				}
			}
		}
	}
}

// checkNear sees that a word is decoded only to what is near enough.
func checkNear(t *testing.T, k rankCode, word []impl.Poly) {
	t.Helper()
	list, code := impl.DecodeRank(k.p, k.m, k.places, k.coefficients(), word)
	switch code {
	case impl.ErrNone:
		if len(list) != k.size || k.rank(k.apart(k.encoded(list), word)) > k.most() {
			t.Errorf("DecodeRank(%d, %v, %v, %d, %v) = %v", k.p, k.m, k.places, k.size, word, list)
		}
	default:
		expectCode(t, "DecodeRank", results(list, code), impl.ErrNotFound)
	}
}

// tally counts what is decoded, and what is not.
type tally struct {
	found, lost int
}

// checkSearched holds the program against a search through all words of a code.
func (c *tally) checkSearched(t *testing.T, k rankCode, all []sent, word []impl.Poly) {
	t.Helper()
	want := k.search(t, all, word)
	if want == nil {
		c.lost++
	} else {
		c.found++
	}
	expectDecoded(t, k, word, want)
	isWord := slices.ContainsFunc(all, func(one sent) bool { return slices.Equal(one.word, word) })
	expect(t, "IsCodeWord", results(impl.IsCodeWord(k.p, k.m, k.places, k.coefficients(), word)), isWord)
}

// All words are decoded, if there are few, and otherwise those with errors of all ranks, and samples.
func TestSmallCodes(t *testing.T) {
	s := &sampler{state: 423}
	for _, p := range primes {
		for _, k := range towers(s, p) {
			var all tally
			for _, c := range s.rankCodes(k) {
				if c.isSmall(codeLimit) {
					all.checkCode(t, s, c)
				}
			}
			if all.found == 0 || k.degree() > 1 && all.lost == 0 {
				t.Errorf("%d, %v: %d words are decoded, and %d are not", p, k.m, all.found, all.lost)
			}
		}
	}
}

func (c *tally) checkCode(t *testing.T, s *sampler, k rankCode) {
	t.Helper()
	all, n := k.words(), len(k.places)
	if (rankCode{k.tower, nil, n}).isSmall(700) {
		for _, word := range allLists(k.tower, n) {
			c.checkSearched(t, k, all, word)
		}
		return
	}
	for range 20 {
		c.checkSearched(t, k, all, s.list(k.tower, n))
		one := all[s.below(int64(len(all)))]
		for rank := range n + 1 {
			c.checkSearched(t, k, all, k.spoilt(one.word, s.ofRank(k.tower, n, rank)))
		}
	}
}

// Two codes with the distance 3 or 4 are decoded for all words that there are.
func TestAllWordsOfSomeCodes(t *testing.T) {
	s := &sampler{state: 424}
	for _, c := range []struct {
		p       int64
		d, n, k int
	}{{2, 3, 3, 1}, {2, 4, 3, 1}, {3, 3, 3, 1}} {
		var all tally
		k := towerOf(c.p, s.irreducible(c.p, c.d))
		code := rankCode{k, s.independent(k, c.n), c.k}
		words := code.words()
		for _, word := range allLists(k, c.n) {
			all.checkSearched(t, code, words, word)
		}
		// Each word of the code is near to itself, and to as many as there are errors of the rank 1.
		errors := (len(k.all) - 1) * (int(normOf(c.p, monomial(c.n))) - 1) / int(c.p-1)
		if all.found != len(words)*(1+errors) {
			t.Errorf("%v: %d words are decoded, and %d are not", c, all.found, all.lost)
		}
	}
}

func TestDecodingByHand(t *testing.T) {
	m := poly("111")
	expect(t, "DecodeRank", results(impl.DecodeRank(2, m, polys("1", "10"), 1, polys("11", "1"))), polys("11"))
	expectCode(t, "DecodeRank", results(impl.DecodeRank(2, m, polys("1", "10"), 1, polys("1", "11"))), impl.ErrNotFound)
	expect(t, "DecodeRank", results(impl.DecodeRank(2, m, polys("1", "10"), 2, polys("1", "11"))), polys("0", "1"))
	expect(t, "DecodeRank", results(impl.DecodeRank(2, m, polys("1", "10"), 2, polys("1", "10"))), polys("1", "0"))
	expect(t, "DecodeRank", results(impl.DecodeRank(7, poly("13"), polys("3"), 1, polys("1"))), polys("5"))
	// T times 1, T and T^2, for 8 elements, is T, T^2 and T + 1; T^2 + 1 is added to some of these.
	m = poly("1011")
	places := polys("1", "10", "100")
	for _, word := range [][]impl.Poly{
		polys("10", "100", "11"), polys("111", "100", "11"), polys("111", "1", "11"), polys("111", "1", "110"), polys("10", "1", "110"),
	} {
		expect(t, "DecodeRank", results(impl.DecodeRank(2, m, places, 1, word)), polys("10"))
	}
	expect(t, "DecodeRank", results(impl.DecodeRank(2, m, places, 1, polys("0", "0", "0"))), polys("0"))
	expect(t, "DecodeRank", results(impl.DecodeRank(2, m, places, 1, polys("0", "101", "0"))), polys("0"))
	expectCode(t, "DecodeRank", results(impl.DecodeRank(2, m, places, 2, polys("0", "101", "0"))), impl.ErrNotFound)
	expect(t, "DecodeRank", results(impl.DecodeRank(2, m, places, 3, polys("0", "0", "0"))), polys("0", "0", "0"))
}

func TestLeastRank(t *testing.T) {
	s := &sampler{state: 425}
	for _, p := range primes {
		for _, k := range towers(s, p) {
			for _, c := range s.rankCodes(k) {
				n := len(c.places)
				got := results(impl.LeastRank(p, k.m, c.places, c.coefficients()))
				expect(t, "LeastRank", got, int64(n)-c.coefficients()+1)
				if !c.isSmall(codeLimit) {
					continue
				}
				least := n + 1
				for _, one := range c.words() {
					if rank := c.rank(one.word); rank > 0 {
						least = min(least, rank)
					}
				}
				expect(t, "LeastRank", got, int64(least))
			}
		}
	}
	expect(t, "LeastRank", results(impl.LeastRank(7, poly("13"), polys("3"), 1)), int64(1))
	expect(t, "LeastRank", results(impl.LeastRank(2, poly("10011"), polys("1", "10", "100", "1000"), 1)), int64(4))
	expect(t, "LeastRank", results(impl.LeastRank(2, poly("10011"), polys("1", "10", "100", "1000"), 4)), int64(1))
	expect(t, "LeastRank", results(impl.LeastRank(2, poly("10011"), polys("1", "10"), 2)), int64(1))
}

// Where not all words can be searched through, those that are encoded with as many coefficients as the
// code has are in it, and those whose last coefficient behind these is not 0 are not.
func TestIsCodeWord(t *testing.T) {
	s := &sampler{state: 426}
	for _, p := range primes {
		for _, k := range towers(s, p) {
			for _, c := range s.rankCodes(k) {
				for _, message := range s.messages(c) {
					word := c.encoded(message)
					last := len(withoutZeros(message))
					for number := 1; number <= len(c.places); number++ {
						got := results(impl.IsCodeWord(p, k.m, c.places, int64(number), word))
						expect(t, "IsCodeWord", got, last <= number)
					}
				}
				zeros := make([]impl.Poly, len(c.places))
				expect(t, "IsCodeWord", results(impl.IsCodeWord(p, k.m, c.places, c.coefficients(), zeros)), true)
			}
		}
	}
	m := poly("111")
	expect(t, "IsCodeWord", results(impl.IsCodeWord(2, m, polys("1", "10"), 1, polys("11", "1"))), true)
	expect(t, "IsCodeWord", results(impl.IsCodeWord(2, m, polys("1", "10"), 1, polys("1", "11"))), false)
	expect(t, "IsCodeWord", results(impl.IsCodeWord(2, m, polys("1", "10"), 2, polys("1", "11"))), true)
}
