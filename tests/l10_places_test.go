package tests

import (
	"slices"
	"testing"

	"loop.example/g01245/impl"
)

func TestConstantsOfChapter10(t *testing.T) {
	if impl.MaxDigits != 40 || impl.MaxPartials != 30 {
		t.Errorf("limits %d and %d", impl.MaxDigits, impl.MaxPartials)
	}
}

// digitsBy returns the digits of the quotient: T^n a divided by b has them at the powers below T^n.
func digitsBy(p int64, k quotient, n int) []int64 {
	all, _ := plainOf(k.a).shifted(p, 1, n).divided(p, plainOf(k.b))
	digits := make([]int64, n)
	for i := range digits {
		digits[i] = all.at(n - 1 - i)
	}
	return digits
}

func TestDigitsOfQuotient(t *testing.T) {
	s := &sampler{state: 500}
	for _, p := range primes {
		for _, k := range s.quotients(t, p, 62) {
			for _, n := range []int{0, 1, 2, int(s.below(impl.MaxDigits)), impl.MaxDigits - 1, impl.MaxDigits} {
				expect(t, "DigitsOfQuotient", results(impl.DigitsOfQuotient(p, k.a, k.b, int64(n))), digitsBy(p, k, n))
			}
		}
		for _, b := range smallPolys(p, 1)[1:] {
			for _, a := range smallPolys(p, 1) {
				k := quotient{a, b}
				expect(t, "DigitsOfQuotient", results(impl.DigitsOfQuotient(p, a, b, 12)), digitsBy(p, k, 12))
			}
		}
	}
}

func TestDigitsByHand(t *testing.T) {
	for _, c := range []struct {
		p    int64
		a, b string
		want []int64
	}{
		{2, "1", "11", []int64{1, 1, 1}},
		{2, "1", "10", []int64{1, 0, 0}},
		{2, "1", "111", []int64{0, 1, 1, 0, 1, 1}},
		{2, "111", "11", []int64{1, 1, 1, 1}},
		{3, "1", "11", []int64{1, 2, 1, 2}},
		{3, "1", "12", []int64{1, 1, 1, 1}},
		{3, "2", "20", []int64{1, 0, 0}},
		{5, "12", "10", []int64{2, 0}},
		{5, "1", "13", []int64{1, 2, 4, 3, 1}},
		{7, "1", "30", []int64{5, 0, 0}},
		{7, "6", "101", []int64{0, 6, 0, 1, 0, 6}},
		{7, "345", "2", []int64{0, 0, 0}},
		{7, "0", "16", []int64{0, 0, 0}},
	} {
		got := results(impl.DigitsOfQuotient(c.p, poly(c.a), poly(c.b), int64(len(c.want))))
		expect(t, "DigitsOfQuotient", got, c.want)
	}
}

func TestContinuedFractions(t *testing.T) {
	s := &sampler{state: 501}
	for _, p := range primes {
		for _, k := range s.quotients(t, p, impl.MaxDegree) {
			checkFraction(t, p, k)
		}
		for _, b := range smallPolys(p, 1)[1:] {
			for _, a := range smallPolys(p, 1) {
				checkFraction(t, p, quotient{a, b})
			}
		}
	}
}

// checkFraction also holds the last convergent against the greatest common divisor: it leads back to a
// and b, up to a number.
func checkFraction(t *testing.T, p int64, k quotient) {
	t.Helper()
	list := partialsBy(t, p, k)
	expect(t, "ContinuedFraction", results(impl.ContinuedFraction(p, k.a, k.b)), list)
	degrees := make([]int64, len(list))
	for i, q := range list {
		degrees[i] = int64(degreeOf(q))
	}
	expect(t, "DegreesOfPartials", results(impl.DegreesOfPartials(p, k.a, k.b)), degrees)
	over, under := convergentBy(p, list)
	common := plainOf(must[impl.Poly](t)(impl.GcdOf(p, k.a, k.b)))
	c := plainOf(k.b).at(degreeOf(k.b)) * inverseOf(p, under.at(len(under)-1))
	common = common.times(p, plain{c % p})
	if !common.times(p, over).equals(plainOf(k.a)) || !common.times(p, under).equals(plainOf(k.b)) {
		t.Errorf("%d: the continued fraction of %v and %v leads to %v and %v", p, k.a, k.b, over, under)
	}
}

// A list with a first polynomial and with others of degrees of at least 1 is the continued fraction of
// its last convergent, also with a common divisor.
func TestChosenFractions(t *testing.T) {
	s := &sampler{state: 502}
	for _, p := range primes {
		for _, count := range []int{1, 2, 3, 5, 29, 30, 31, 32, 62, 63, 64} {
			for range 10 {
				list := s.partials(p, count, impl.MaxDegree)
				over, under := convergentBy(p, list)
				divisor := s.poly(p, int(s.below(int64(65-max(len(over), len(under))))))
				a, b := over.times(p, plainOf(divisor)).poly(t), under.times(p, plainOf(divisor)).poly(t)
				expect(t, "ContinuedFraction", results(impl.ContinuedFraction(p, a, b)), list)
				checkFraction(t, p, quotient{a, b})
				checkBest(t, p, quotient{a, b})
				if a != (impl.Poly{}) {
					checkFraction(t, p, quotient{b, a})
				}
			}
		}
	}
}

func TestFractionsByHand(t *testing.T) {
	for _, c := range []struct {
		p       int64
		a, b    string
		want    []impl.Poly
		degrees []int64
	}{
		{2, "1101", "10", polys("110", "10"), []int64{2, 1}},
		{3, "101", "10", polys("10", "10"), []int64{1, 1}},
		{3, "10", "101", polys("0", "10", "10"), []int64{-1, 1, 1}},
		{5, "100", "21", polys("31", "34"), []int64{1, 1}},
		{7, "4", "3", polys("6"), []int64{0}},
		{7, "0", "3", polys("0"), []int64{-1}},
		{7, "0", "36", polys("0"), []int64{-1}},
		{7, "3", "36", polys("0", "12"), []int64{-1, 1}},
		{2, "110", "110", polys("1"), []int64{0}},
		{2, "1", "10", polys("0", "10"), []int64{-1, 1}},
		{3, "112", "11", polys("10", "22"), []int64{1, 1}},
	} {
		a, b := poly(c.a), poly(c.b)
		expect(t, "ContinuedFraction", results(impl.ContinuedFraction(c.p, a, b)), c.want)
		expect(t, "DegreesOfPartials", results(impl.DegreesOfPartials(c.p, a, b)), c.degrees)
	}
}

// checkConvergents reports whether there is a result.
func checkConvergents(t *testing.T, p int64, list []impl.Poly) bool {
	t.Helper()
	var overs, unders []impl.Poly
	fits := true
	for k := range list {
		over, under := convergentBy(p, list[:k+1])
		if fits = fits && max(len(over), len(under)) <= impl.MaxDegree+1; fits {
			overs, unders = append(overs, over.poly(t)), append(unders, under.poly(t))
		}
	}
	got := results(impl.ConvergentsOf(p, list))
	if !fits {
		expectCode(t, "ConvergentsOf", got, impl.ErrLimit)
		return false
	}
	expect(t, "ConvergentsOf", got, overs, unders)
	return true
}

func TestConvergents(t *testing.T) {
	s := &sampler{state: 503}
	for _, p := range primes {
		fitting, refused := 0, 0
		for count := 1; count <= impl.MaxPartials; count++ {
			for _, most := range []int{0, 0, 1, 1, 2, 2, 3, 4, 5, 9, min(63, 130/count), min(63, 160/count), min(63, 200/count)} {
				if checkConvergents(t, p, s.actions(p, count, most)) {
					fitting++
				} else {
					refused++
				}
			}
			for _, room := range []int{impl.MaxDegree, impl.MaxDegree - 1} {
				if !checkConvergents(t, p, s.partials(p, count, room)) {
					t.Errorf("%d: %d partials of a sum of %d do not fit", p, count, room)
				}
			}
		}
		if fitting < 100 || refused < 50 {
			t.Errorf("%d: %d lists fit, and %d do not", p, fitting, refused)
		}
	}
}

// 0 in front, in the middle and behind, alone and next to another one.
func TestConvergentsWithZeros(t *testing.T) {
	s := &sampler{state: 504}
	for _, p := range primes {
		for count := 1; count <= impl.MaxPartials; count++ {
			checkConvergents(t, p, make([]impl.Poly, count))
			for at := range count {
				for zeros := 1; zeros <= min(3, count-at); zeros++ {
					list := s.partials(p, count, impl.MaxDegree)
					clear(list[at : at+zeros])
					checkConvergents(t, p, list)
				}
			}
		}
	}
}

func TestConvergentsByHand(t *testing.T) {
	for _, c := range []struct {
		p                   int64
		list, overs, unders []impl.Poly
	}{
		{2, polys("110", "10"), polys("110", "1101"), polys("1", "10")},
		{2, polys("0"), polys("0"), polys("1")},
		{2, polys("0", "0"), polys("0", "1"), polys("1", "0")},
		{2, polys("0", "0", "0"), polys("0", "1", "0"), polys("1", "0", "1")},
		{3, polys("10", "10", "10"), polys("10", "101", "1020"), polys("1", "10", "101")},
		{3, polys("0", "10", "20"), polys("0", "1", "20"), polys("1", "10", "201")},
		{3, polys("10", "0", "20"), polys("10", "1", "0"), polys("1", "0", "1")},
		{5, polys("31", "34"), polys("31", "400"), polys("1", "34")},
		{7, polys("2", "3", "4"), polys("2", "0", "2"), polys("1", "3", "6")},
		{7, polys("12", "0"), polys("12", "1"), polys("1", "0")},
	} {
		expect(t, "ConvergentsOf", results(impl.ConvergentsOf(c.p, c.list)), c.overs, c.unders)
	}
}

// A convergent has at most the sum of the degrees as its own one, P with the first polynomial, and Q
// without it.
func TestConvergentsAtMaxDegree(t *testing.T) {
	s := &sampler{state: 505}
	for _, p := range primes {
		for n := range impl.MaxDegree + 1 {
			m := impl.MaxDegree - n
			x, y := s.poly(p, n), s.poly(p, m)
			more := s.poly(p, min(m+1, 63))
			for _, list := range [][]impl.Poly{{x, y}, {x, {}, y}, {{}, x, y}, {x, y, {}}, {{}, {}, x, y}, {x, y, {}, {}}, {{1}, x, y}} {
				if !checkConvergents(t, p, list) {
					t.Errorf("%d: the convergents of %v do not fit", p, list)
				}
			}
			if n == 0 {
				continue
			}
			// What comes behind a convergent that is too great does not help.
			for _, list := range [][]impl.Poly{{x, more}, {{}, x, more}, {x, more, {}}, {{1}, x, more, {}}, {{}, x, more, {}, {}}} {
				if checkConvergents(t, p, list) {
					t.Errorf("%d: the convergents of %v fit", p, list)
				}
			}
		}
		great := full(p, 63)
		for _, list := range [][]impl.Poly{{great}, {great, {}}, {{}, great}, {{}, great, {}}, {great, {1}}, {{1}, great}, {great, {}, great, {}, great}} {
			if !checkConvergents(t, p, list) {
				t.Errorf("%d: the convergents of %v do not fit", p, list)
			}
		}
	}
}

// checkBest searches through all convergents for each degree.
func checkBest(t *testing.T, p int64, k quotient) {
	t.Helper()
	list := partialsBy(t, p, k)
	var overs, unders []impl.Poly
	for i := range list {
		over, under := convergentBy(p, list[:i+1])
		overs, unders = append(overs, over.poly(t)), append(unders, under.poly(t))
	}
	if len(list) <= impl.MaxPartials {
		expect(t, "ConvergentsOf", results(impl.ConvergentsOf(p, list)), overs, unders)
	}
	for n := range impl.MaxDegree + 1 {
		var over, under impl.Poly
		for i := range list {
			if degreeOf(unders[i]) <= n {
				over, under = overs[i], unders[i]
			}
		}
		expect(t, "BestApproximation", results(impl.BestApproximation(p, k.a, k.b, int64(n))), over, under)
	}
}

func TestBestApproximations(t *testing.T) {
	s := &sampler{state: 506}
	for _, p := range primes {
		for _, k := range s.quotients(t, p, impl.MaxDegree) {
			if s.below(4) == 0 {
				checkBest(t, p, k)
			}
		}
	}
	for _, p := range []int64{2, 3} {
		for _, a := range smallPolys(p, 2) {
			for _, b := range smallPolys(p, 2)[1:] {
				checkBest(t, p, quotient{a, b})
			}
		}
	}
}

// No fraction whose denominator has at most the degree n is nearer to a / b: b P - a Q has the least
// degree there is for P and Q, not both 0.
func TestNothingIsNearer(t *testing.T) {
	s := &sampler{state: 507}
	for _, p := range []int64{2, 3} {
		for range 30 {
			k := quotient{s.upTo(p, 12), s.poly(p, int(s.below(12)))}
			for n := range 4 {
				over, under, _ := impl.BestApproximation(p, k.a, k.b, int64(n))
				apart := len(crosswise(p, over, under, k.a, k.b))
				for _, q := range smallPolys(p, n)[1:] {
					_, rest := plainOf(k.a).times(p, plainOf(q)).divided(p, plainOf(k.b))
					if len(rest) < apart {
						t.Errorf("%d: of %v and %v, %v is nearer than %v and %v", p, k.a, k.b, q, over, under)
					}
				}
			}
		}
	}
}

func TestBestByHand(t *testing.T) {
	for _, c := range []struct {
		p           int64
		a, b        string
		n           int64
		over, under string
	}{
		{2, "1101", "10", 0, "110", "1"},
		{2, "1101", "10", 1, "1101", "10"},
		{2, "1101", "10", 63, "1101", "10"},
		{3, "10", "101", 0, "0", "1"},
		{3, "10", "101", 1, "1", "10"},
		{3, "10", "101", 2, "10", "101"},
		{3, "20", "202", 2, "10", "101"},
		// The whole of it is told up to a number only.
		{5, "100", "21", 1, "400", "34"},
		{7, "4", "3", 0, "6", "1"},
		{7, "0", "36", 63, "0", "1"},
	} {
		got := results(impl.BestApproximation(c.p, poly(c.a), poly(c.b), c.n))
		expect(t, "BestApproximation", got, poly(c.over), poly(c.under))
	}
}

func TestArgumentsOfChapter10Stay(t *testing.T) {
	s := &sampler{state: 508}
	for _, p := range primes {
		for n := 1; n <= impl.MaxPartials; n++ {
			// The spare capacity behind the list holds what has to stay as well.
			list := s.actions(p, 2*impl.MaxPartials, 2)
			before := slices.Clone(list)
			overs, unders, _ := impl.ConvergentsOf(p, list[:n])
			wantOvers, wantUnders := slices.Clone(overs), slices.Clone(unders)
			clear(overs[:cap(overs)])
			if !slices.Equal(unders, wantUnders) {
				t.Errorf("%d: the denominators share memory with the numerators", p)
			}
			clear(unders[:cap(unders)])
			again, others, _ := impl.ConvergentsOf(p, list[:n])
			if !slices.Equal(list, before) || !slices.Equal(again, wantOvers) || !slices.Equal(others, wantUnders) {
				t.Errorf("%d: %v became %v", p, before, list)
			}
		}
	}
}

// Results are new memory: changing one changes no later one.
func TestListsOfChapter10AreNew(t *testing.T) {
	for range 2 {
		digits, _ := impl.DigitsOfQuotient(3, poly("1"), poly("12"), 3)
		degrees, _ := impl.DegreesOfPartials(3, poly("101"), poly("10"))
		partials, _ := impl.ContinuedFraction(3, poly("101"), poly("10"))
		root, _ := impl.DigitsOfRoot(3, poly("101"), 3)
		if !slices.Equal(digits, []int64{1, 1, 1}) || !slices.Equal(degrees, []int64{1, 1}) ||
			!slices.Equal(partials, polys("10", "10")) || !slices.Equal(root, []int64{2, 0, 1}) {
			t.Errorf("results are %v, %v, %v and %v", digits, degrees, partials, root)
		}
		for _, numbers := range [][]int64{digits, degrees, root} {
			clear(numbers[:cap(numbers)])
		}
		clear(partials[:cap(partials)])
	}
}
