package tests

import (
	"maps"
	"slices"
	"testing"

	"loop.example/g01245/impl"
)

// listSamples returns lists of up to so many residues: independent ones, and those of all lesser ranks,
// with 0, with the same residue twice, and with one that is the sum of others.
func listSamples(s *sampler, k *tower, most int) [][]impl.Poly {
	lists := leastSamples(s, k)
	x, y, z := s.unit(k), s.unit(k), s.residue(k)
	lists = append(lists, polys("0", "0", "0", "0"), []impl.Poly{x, y, z, k.plus(x, k.plus(y, z))}, []impl.Poly{x, y, z, x})
	for n := 1; n <= most; n++ {
		for rank := range min(n, k.degree()) + 1 {
			lists = append(lists, s.ofRank(k, n, rank))
		}
	}
	return slices.DeleteFunc(lists, func(list []impl.Poly) bool { return len(list) > most })
}

// fieldsWithFew returns a field of each degree in which there are at most limit lists of so many
// residues.
func (s *sampler) fieldsWithFew(count, limit int) []*tower {
	var list []*tower
	for _, p := range primes {
		for d := 1; d <= 4; d++ {
			k := towerOf(p, s.irreducible(p, d))
			if (rankCode{tower: k, size: count}).isSmall(limit) {
				list = append(list, k)
			}
		}
	}
	return list
}

func checkMoore(t *testing.T, k *tower, list []impl.Poly) {
	t.Helper()
	rows, code := impl.MooreMatrix(k.p, k.m, list)
	if code != impl.ErrNone || len(rows) != len(list) {
		t.Fatalf("MooreMatrix(%d, %v, %v) = %v, %d", k.p, k.m, list, rows, code)
	}
	for i, row := range rows {
		var want []impl.Poly
		for _, x := range list {
			want = append(want, k.raised(x, i))
		}
		if !slices.Equal(row, want) {
			t.Errorf("MooreMatrix(%d, %v, %v) has the row %v, want %v", k.p, k.m, list, row, want)
		}
	}
	want := k.mooreByOrders(list)
	expect(t, "MooreDeterminant", results(impl.MooreDeterminant(k.p, k.m, list)), want)
	if k.isIndependent(list) != (want != impl.Poly{}) {
		t.Errorf("%d, %v: %v has the determinant %v", k.p, k.m, list, want)
	}
}

func TestMoore(t *testing.T) {
	s := &sampler{state: 410}
	for _, p := range primes {
		for _, k := range towers(s, p) {
			for _, list := range listSamples(s, k, impl.MaxPlaces) {
				checkMoore(t, k, list)
			}
		}
	}
	for n := range impl.MaxPlaces + 1 {
		for _, k := range s.fieldsWithFew(n, 4100) {
			for _, list := range allLists(k, n) {
				checkMoore(t, k, list)
			}
		}
	}
}

func TestMooreByHand(t *testing.T) {
	// Of nothing, and of one residue, there is little to find.
	for _, p := range primes {
		rows, code := impl.MooreMatrix(p, monomial(1), nil)
		if len(rows) != 0 || code != impl.ErrNone {
			t.Errorf("MooreMatrix of nothing = %v, %d", rows, code)
		}
		expect(t, "MooreDeterminant", results(impl.MooreDeterminant(p, monomial(1), nil)), poly("1"))
		expect(t, "MooreMatrix", results(impl.MooreMatrix(p, monomial(1), polys("0"))), [][]impl.Poly{polys("0")})
		expect(t, "MooreDeterminant", results(impl.MooreDeterminant(p, monomial(1), polys("0"))), poly("0"))
	}
	// For 9 elements T T is -1, and the Frobenius of T is -T: 1 times -T, less T times 1, is T.
	m := poly("101")
	want := [][]impl.Poly{polys("1", "10"), polys("1", "20")}
	expect(t, "MooreMatrix", results(impl.MooreMatrix(3, m, polys("1", "10"))), want)
	expect(t, "MooreDeterminant", results(impl.MooreDeterminant(3, m, polys("1", "10"))), poly("10"))
	expect(t, "MooreDeterminant", results(impl.MooreDeterminant(3, m, polys("10", "1"))), poly("20"))
	expect(t, "MooreDeterminant", results(impl.MooreDeterminant(3, m, polys("10", "20"))), poly("0"))
	// For 8 elements, with T^3 as T + 1, the powers of T are 1, T, T^2, T + 1, T^2 + T, T^2 + T + 1
	// and T^2 + 1.
	m = poly("1011")
	want = [][]impl.Poly{polys("1", "10", "100"), polys("1", "100", "110"), polys("1", "110", "10")}
	expect(t, "MooreMatrix", results(impl.MooreMatrix(2, m, polys("1", "10", "100"))), want)
	expect(t, "MooreDeterminant", results(impl.MooreDeterminant(2, m, polys("1", "10", "100"))), poly("1"))
	// Three of 9 elements are never independent, nor are two of 7.
	expect(t, "MooreDeterminant", results(impl.MooreDeterminant(3, poly("101"), polys("1", "10", "12"))), poly("0"))
	expect(t, "MooreDeterminant", results(impl.MooreDeterminant(7, poly("13"), polys("2", "5"))), poly("0"))
}

// checkSpan relies on this: a space has only one reduced list.
func checkSpan(t *testing.T, k *tower, list []impl.Poly) {
	t.Helper()
	all := k.span(list)
	got, code := impl.SpanOf(k.p, k.m, list)
	if code != impl.ErrNone || !isReducedList(got) || !maps.Equal(k.span(got), all) {
		t.Errorf("SpanOf(%d, %v, %v) = %v, %d", k.p, k.m, list, got, code)
	}
	rank := k.dimension(len(all))
	if len(list) <= impl.MaxPlaces {
		expect(t, "RankOfWord", results(impl.RankOfWord(k.p, k.m, list)), int64(rank))
	}
	if k.rank(list) != rank {
		t.Errorf("%d, %v: %v has the rank %d for the test", k.p, k.m, list, k.rank(list))
	}
}

func TestSpanOf(t *testing.T) {
	s := &sampler{state: 411}
	for _, p := range primes {
		for _, k := range towers(s, p) {
			for _, list := range append(listSamples(s, k, 9), k.all, slices.Repeat(polys("1"), 300)) {
				checkSpan(t, k, list)
			}
		}
	}
	for n := range 4 {
		for _, k := range s.fieldsWithFew(n, 4100) {
			for _, list := range allLists(k, n) {
				checkSpan(t, k, list)
			}
		}
	}
}

func TestSpansByHand(t *testing.T) {
	m := poly("10011")
	expectList(t, "SpanOf", results(impl.SpanOf(2, m, nil)), nil)
	expectList(t, "SpanOf", results(impl.SpanOf(2, m, polys("0", "0"))), nil)
	expect(t, "SpanOf", results(impl.SpanOf(2, m, polys("1", "1011", "1000"))), polys("1000", "10", "1"))
	expect(t, "SpanOf", results(impl.SpanOf(2, m, polys("11", "110", "101"))), polys("101", "11"))
	expect(t, "SpanOf", results(impl.SpanOf(2, m, polys("1111", "1", "110", "10"))), polys("1000", "100", "10", "1"))
	m = poly("10")
	expect(t, "SpanOf", results(impl.SpanOf(7, m, polys("0", "5", "3"))), polys("1"))
	// 2 T^2 + 4 T + 1 becomes T^2 + 2 T + 3, and then 3 T - 1 is T + 3.
	m = poly("1011")
	if !impl.IsField(5, m) {
		t.Fatal("no field")
	}
	expect(t, "SpanOf", results(impl.SpanOf(5, m, polys("241"))), polys("123"))
	expect(t, "SpanOf", results(impl.SpanOf(5, m, polys("241", "34"))), polys("102", "13"))
	expect(t, "SpanOf", results(impl.SpanOf(5, m, polys("34", "241", "0", "220"))), polys("102", "13"))
	expect(t, "RankOfWord", results(impl.RankOfWord(5, m, polys("34", "241", "0", "220"))), int64(2))
	expect(t, "RankOfWord", results(impl.RankOfWord(5, m, nil)), int64(0))
	expect(t, "RankOfWord", results(impl.RankOfWord(5, m, polys("0", "0", "0", "0"))), int64(0))
	expect(t, "RankOfWord", results(impl.RankOfWord(5, m, polys("10", "20", "30", "40"))), int64(1))
}

// checkDickson holds the coefficients against LeastSkew, and this against the values of a monic skew
// polynomial of the degree of the dimension: there is only one that is 0 on the span.
func checkDickson(t *testing.T, k *tower, list []impl.Poly) {
	t.Helper()
	all := k.span(list)
	n := k.dimension(len(all))
	f := must[impl.Skew](t)(impl.LeastSkew(k.p, k.m, list))
	expect(t, "DicksonOf", results(impl.DicksonOf(k.p, k.m, list)), f[:n+1])
	if f[n] != (impl.Poly{1}) {
		t.Errorf("%d, %v: %v has the least skew polynomial %v", k.p, k.m, list, f)
	}
	for x := range all {
		if k.value(f, x) != (impl.Poly{}) {
			t.Errorf("%d, %v: %v has the value %v at %v", k.p, k.m, f, k.value(f, x), x)
		}
	}
	kernel := must[[]impl.Poly](t)(impl.KernelOfSkew(k.p, k.m, f))
	if !maps.Equal(k.span(kernel), all) {
		t.Errorf("%d, %v: %v has the kernel %v, not the span of %v", k.p, k.m, f, kernel, list)
	}
}

func TestDicksonOf(t *testing.T) {
	s := &sampler{state: 412}
	for _, p := range primes {
		for _, k := range towers(s, p) {
			for _, list := range append(listSamples(s, k, 9), slices.Repeat([]impl.Poly{s.unit(k)}, 300)) {
				checkDickson(t, k, list)
			}
			unit := k.unitSkew()
			expect(t, "DicksonOf all", results(impl.DicksonOf(p, k.m, k.all)), unit[:k.degree()+1])
		}
	}
	for n := range 4 {
		for _, k := range s.fieldsWithFew(n, 700) {
			for _, list := range allLists(k, n) {
				checkDickson(t, k, list)
			}
		}
	}
}

func TestDicksonByHand(t *testing.T) {
	for _, p := range primes {
		expect(t, "DicksonOf", results(impl.DicksonOf(p, monomial(1), nil)), polys("1"))
		expect(t, "DicksonOf", results(impl.DicksonOf(p, monomial(1), polys("0", "0"))), polys("1"))
		one := []impl.Poly{{byte(p - 1)}, {1}}
		expect(t, "DicksonOf", results(impl.DicksonOf(p, monomial(1), polys("1", "1", "0", "1", "1", "1"))), one)
	}
	// T T is -1, and T times -1 is the Frobenius of T.
	expect(t, "DicksonOf", results(impl.DicksonOf(3, poly("101"), polys("10"))), polys("1", "1"))
	expect(t, "DicksonOf", results(impl.DicksonOf(3, poly("101"), polys("20", "11"))), polys("2", "0", "1"))
	// For 8 elements: that of 1 is tau - 1, of T then T^2 - T, whose power 1 has to be taken: the
	// product of tau + T^2 + T and tau + 1 is tau tau + (T^2 + T + 1) tau + T^2 + T.
	expect(t, "DicksonOf", results(impl.DicksonOf(2, poly("1011"), polys("1", "10"))), polys("110", "111", "1"))
}

func TestRankDistance(t *testing.T) {
	s := &sampler{state: 413}
	for _, p := range primes {
		for _, k := range towers(s, p) {
			for _, v := range listSamples(s, k, impl.MaxPlaces) {
				n := len(v)
				words := [][]impl.Poly{make([]impl.Poly, n), v, s.list(k, n)}
				for rank := range min(n, k.degree()) + 1 {
					wrong := s.ofRank(k, n, rank)
					w := (rankCode{tower: k}).spoilt(v, wrong)
					expect(t, "RankDistance", results(impl.RankDistance(p, k.m, v, w)), int64(rank))
					words = append(words, w, wrong)
				}
				for _, w := range words {
					want := results(impl.RankOfWord(p, k.m, k.apart(v, w)))[0]
					expect(t, "RankDistance", results(impl.RankDistance(p, k.m, v, w)), want)
					expect(t, "RankDistance", results(impl.RankDistance(p, k.m, w, v)), want)
					if size := len(k.span(k.apart(v, w))); int64(k.dimension(size)) != want {
						t.Errorf("%d, %v: the distance of %v and %v is %v", p, k.m, v, w, want)
					}
				}
			}
		}
	}
	expect(t, "RankDistance", results(impl.RankDistance(2, poly("111"), nil, []impl.Poly{})), int64(0))
	expect(t, "RankDistance", results(impl.RankDistance(3, poly("101"), polys("2", "10", "1"), polys("0", "10", "12"))), int64(2))
	expect(t, "RankDistance", results(impl.RankDistance(3, poly("101"), polys("2", "10", "1"), polys("1", "12", "0"))), int64(1))
}

// What stands behind the lists in memory stays as well, and what is returned is new.
func TestListsOfChapter9(t *testing.T) {
	s := &sampler{state: 414}
	for _, p := range primes {
		for _, k := range towers(s, p) {
			for _, c := range s.rankCodes(k) {
				n := len(c.places)
				places, word := append(slices.Clone(c.places), full(p, 63)), append(s.list(k, n), full(p, 63))
				before, other := slices.Clone(places), slices.Clone(word)
				for range 2 {
					checkListsAreNew(t, c, places[:n], word[:n])
					if !slices.Equal(places, before) || !slices.Equal(word, other) {
						t.Fatalf("%v and %v became %v and %v", before, other, places, word)
					}
				}
			}
		}
	}
}

// checkListsAreNew writes over what the functions return, with all that is behind it.
func checkListsAreNew(t *testing.T, k rankCode, places, word []impl.Poly) {
	t.Helper()
	rows, _ := impl.MooreMatrix(k.p, k.m, places)
	for i, row := range rows {
		clear(row[:cap(row)])
		for _, other := range rows[i+1:] {
			if other[0] == (impl.Poly{}) {
				t.Errorf("MooreMatrix(%d, %v, %v) shares memory", k.p, k.m, places)
			}
		}
	}
	checkMoore(t, k.tower, places)
	message := word[:k.size]
	for _, find := range []func() ([]impl.Poly, int64){
		func() ([]impl.Poly, int64) { return impl.SpanOf(k.p, k.m, word) },
		func() ([]impl.Poly, int64) { return impl.DicksonOf(k.p, k.m, word) },
		func() ([]impl.Poly, int64) { return impl.EncodeRank(k.p, k.m, places, message) },
		func() ([]impl.Poly, int64) { return impl.DecodeRank(k.p, k.m, places, k.coefficients(), word) },
		func() ([]impl.Poly, int64) {
			return impl.DecodeRank(k.p, k.m, places, k.coefficients(), k.encoded(message))
		},
	} {
		first, code := find()
		want := slices.Clone(first)
		for i := range first[:cap(first)] {
			first[:cap(first)][i] = full(7, 63)
		}
		second, again := find()
		if code != again || !slices.Equal(second, want) {
			t.Errorf("%d, %v, %v and %v: %v became %v", k.p, k.m, places, word, want, second)
		}
	}
	impl.RankOfWord(k.p, k.m, word)
	impl.RankDistance(k.p, k.m, places, word)
	impl.InterpolateSkew(k.p, k.m, places, word)
	impl.IsCodeWord(k.p, k.m, places, k.coefficients(), word)
	impl.LeastRank(k.p, k.m, places, k.coefficients())
}
