package tests

import (
	"slices"
	"testing"

	"loop.example/g01245/impl"
)

func TestConstantsOfChapter4(t *testing.T) {
	if impl.MaxAction != 6 {
		t.Errorf("limit %d", impl.MaxAction)
	}
}

// smallPolys returns all polynomials of degrees up to most.
func smallPolys(p int64, most int) []impl.Poly {
	return residues(p, monomial(most+1))
}

// actionSamples returns polynomials of all degrees that ActionOf takes: all small ones, and some
// others.
func actionSamples(s *sampler, p int64) []impl.Poly {
	list := smallPolys(p, 2)
	for n := 3; n <= impl.MaxAction; n++ {
		list = append(list, monomial(n), full(p, n), s.monic(p, n))
		for range 5 {
			list = append(list, s.poly(p, n))
		}
	}
	return list
}

func TestActionsAndBinomials(t *testing.T) {
	s := &sampler{state: 73}
	for _, p := range primes {
		for _, a := range actionSamples(s, p) {
			checkAction(t, p, a)
		}
	}
}

// checkAction also asks for each binomial. If one of them does not fit, there is none of them.
func checkAction(t *testing.T, p int64, a impl.Poly) {
	t.Helper()
	words := binomialsBy(p, a)
	fits := true
	for _, c := range words {
		fits = fits && len(c) <= impl.MaxDegree+1
	}
	if !fits {
		expectCode(t, "ActionOf", results(impl.ActionOf(p, a)), impl.ErrLimit)
		for i := range int64(impl.MaxAction + 1) {
			expectCode(t, "BinomialOf", results(impl.BinomialOf(p, a, i)), impl.ErrLimit)
		}
		return
	}
	want := polysOf(t, words)
	expectList(t, "ActionOf", results(impl.ActionOf(p, a)), want)
	for i := range impl.MaxAction + 1 {
		var binomial impl.Poly
		if i < len(want) {
			binomial = want[i]
		}
		expect(t, "BinomialOf", results(impl.BinomialOf(p, a, int64(i))), binomial)
	}
}

// polys reads a list from the texts of its polynomials.
func polys(texts ...string) []impl.Poly {
	var list []impl.Poly
	for _, text := range texts {
		list = append(list, poly(text))
	}
	return list
}

func TestActionsByHand(t *testing.T) {
	for _, c := range []struct {
		p    int64
		a    string
		want []impl.Poly
	}{
		{2, "10", polys("10", "1")},
		{2, "11", polys("11", "1")},
		{2, "100", polys("100", "110", "1")},
		{2, "1000", polys("1000", "11100", "10110", "1")},
		{3, "100", polys("100", "1010", "1")},
		{3, "201", polys("201", "2020", "2")},
		{5, "30", polys("30", "3")},
		{7, "100", polys("100", "10000010", "1")},
	} {
		expect(t, "ActionOf", results(impl.ActionOf(c.p, poly(c.a))), c.want)
	}
	for _, p := range primes {
		expectList(t, "ActionOf 0", results(impl.ActionOf(p, impl.Poly{})), nil)
		for c := byte(1); c < byte(p); c++ {
			expect(t, "ActionOf a number", results(impl.ActionOf(p, impl.Poly{c})), []impl.Poly{{c}})
		}
		for i := range int64(impl.MaxAction + 1) {
			expect(t, "BinomialOf 0", results(impl.BinomialOf(p, impl.Poly{}, i)), impl.Poly{})
		}
	}
}

// The binomials of T^n and i have the degree (n - i) p^i, whatever comes behind T^n.
func TestGreatestActions(t *testing.T) {
	s := &sampler{state: 74}
	greatest := map[int64]int{2: 6, 3: 4, 5: 3, 7: 3}
	for _, p := range primes {
		for n := range impl.MaxAction + 1 {
			for _, a := range []impl.Poly{monomial(n), s.poly(p, n)} {
				code := int64(impl.ErrNone)
				if n > greatest[p] {
					code = impl.ErrLimit
				}
				expectCode(t, "ActionOf", results(impl.ActionOf(p, a)), code)
			}
		}
	}
}

func TestAddActions(t *testing.T) {
	s := &sampler{state: 75}
	for _, p := range primes {
		for range 300 {
			a := s.actions(p, int(s.below(impl.MaxAction+2)), 63)
			b := s.actions(p, int(s.below(impl.MaxAction+2)), 63)
			checkSum(t, p, a, b)
			// The same end, with the opposite sign, leaves only what comes before it.
			for i := range min(len(a), len(b)) {
				opposite := slices.Clone(b)
				for j := i; j < len(a); j++ {
					opposite = append(opposite[:j], plusTimes(p, impl.Poly{}, byte(p-1), a[j]))
				}
				checkSum(t, p, a, opposite)
				checkSum(t, p, opposite, a)
			}
		}
		for _, zeros := range [][]impl.Poly{nil, {}, {{}}, make([]impl.Poly, impl.MaxAction+1)} {
			checkSum(t, p, zeros, nil)
			checkSum(t, p, nil, zeros)
			checkSum(t, p, zeros, zeros)
			checkSum(t, p, zeros, []impl.Poly{{}, {1}, {}, {}})
			checkSum(t, p, []impl.Poly{{}, {1}, full(p, 63), {}}, zeros)
		}
	}
}

func checkSum(t *testing.T, p int64, a, b []impl.Poly) {
	t.Helper()
	want := make([]impl.Poly, max(len(a), len(b)))
	for i := range want {
		if i < len(a) {
			want[i] = plusTimes(p, want[i], 1, a[i])
		}
		if i < len(b) {
			want[i] = plusTimes(p, want[i], 1, b[i])
		}
	}
	expectList(t, "AddActions", results(impl.AddActions(p, a, b)), withoutZeros(want))
}

// checkComposition reports whether there is a result.
func checkComposition(t *testing.T, p int64, c, d []impl.Poly) bool {
	t.Helper()
	want, code := composedBy(t, p, c, d)
	got := results(impl.ComposeActions(p, c, d))
	if code != impl.ErrNone {
		expectCode(t, "ComposeActions", got, code)
		return false
	}
	expectList(t, "ComposeActions", got, want)
	return true
}

func TestComposeActions(t *testing.T) {
	s := &sampler{state: 76}
	for _, p := range primes {
		done, refused := 0, 0
		for range 2000 {
			c := s.actions(p, int(s.below(impl.MaxAction+2)), int(s.below(40)))
			d := s.actions(p, int(s.below(impl.MaxAction+2)), int(s.below(4)))
			if checkComposition(t, p, c, d) {
				done++
			} else {
				refused++
			}
		}
		if done < 100 || refused < 100 {
			t.Errorf("%d: %d compositions and %d that are too great are no good sample", p, done, refused)
		}
		for i := range impl.MaxAction + 1 {
			for j := range impl.MaxAction + 1 {
				// Powers of numbers fit, whatever i is.
				c, d := make([]impl.Poly, i+1), make([]impl.Poly, j+1)
				c[i], d[j] = full(p, 63), impl.Poly{byte(p - 1)}
				checkComposition(t, p, c, d)
				checkComposition(t, p, d[:1], c)
			}
		}
	}
}

func TestCompositionsByHand(t *testing.T) {
	for _, c := range []struct {
		p          int64
		c, d, want []impl.Poly
	}{
		// tau T is T^p tau.
		{2, polys("0", "1"), polys("10"), polys("0", "100")},
		{3, polys("0", "1"), polys("10"), polys("0", "1000")},
		{2, polys("10"), polys("0", "1"), polys("0", "10")},
		{2, polys("10", "1"), polys("10", "1"), polys("100", "110", "1")},
		{3, polys("0", "0", "2"), polys("2", "12"), polys("0", "0", "1", "2000000001")},
		{5, polys("3"), polys("4", "21"), polys("2", "13")},
		// What is in the middle cancels.
		{2, polys("1", "1"), polys("10", "100"), polys("10", "0", "10000")},
		{3, polys("10", "1"), polys("12", "2", "0"), polys("120", "1022", "2")},
	} {
		expect(t, "ComposeActions", results(impl.ComposeActions(c.p, c.c, c.d)), c.want)
	}
}

func TestCompositionsWithZeros(t *testing.T) {
	s := &sampler{state: 77}
	zeros := make([]impl.Poly, impl.MaxAction+1)
	for _, p := range primes {
		great := slices.Repeat([]impl.Poly{full(p, 63)}, impl.MaxAction+1)
		for n := range impl.MaxAction + 2 {
			for _, list := range [][]impl.Poly{nil, {}, great, s.actions(p, n, 63)} {
				expectList(t, "ComposeActions", results(impl.ComposeActions(p, list, zeros[:n])), nil)
				expectList(t, "ComposeActions", results(impl.ComposeActions(p, zeros[:n], list)), nil)
				// With {1} in front nothing changes but for the zeros at the end.
				one := append([]impl.Poly{{1}}, zeros[:max(n-1, 0)]...)
				behind := append(slices.Clone(list), zeros[:len(zeros)-len(list)]...)
				want := withoutZeros(slices.Clone(list))
				expectList(t, "ComposeActions", results(impl.ComposeActions(p, one, behind)), want)
			}
		}
	}
}

// The other polynomials of the lists are 0, or small.
func TestCompositionsAtMaxDegree(t *testing.T) {
	s := &sampler{state: 78}
	for _, p := range primes {
		q := 1
		for i := 0; q <= impl.MaxDegree; i++ {
			for e := 0; e*q <= impl.MaxDegree; e++ {
				for j := range impl.MaxAction + 1 {
					c, d := make([]impl.Poly, impl.MaxAction+1), make([]impl.Poly, impl.MaxAction+1)
					c[i], d[j] = s.poly(p, impl.MaxDegree-e*q), s.poly(p, e)
					if !checkComposition(t, p, c, d) {
						t.Errorf("%d: %v and %v do not fit", p, c, d)
					}
					c[s.below(int64(i)+1)], d[s.below(int64(j)+1)] = impl.Poly{}, impl.Poly{}
					checkComposition(t, p, c, d)
					c[i], d[j] = s.poly(p, min(63, impl.MaxDegree+1-e*q)), s.poly(p, e)
					if checkComposition(t, p, c, d) != (e == 0) {
						t.Errorf("%d: %v and %v fit", p, c, d)
					}
				}
			}
			q *= int(p)
		}
	}
}

func TestBracketsAndFactorialsByHand(t *testing.T) {
	for _, c := range []struct {
		name string
		of   func(int64, int64) (impl.Poly, int64)
		p, i int64
		want string
	}{
		{"BracketOf", impl.BracketOf, 2, 1, "110"},
		{"BracketOf", impl.BracketOf, 2, 2, "10010"},
		{"BracketOf", impl.BracketOf, 3, 1, "1020"},
		{"BracketOf", impl.BracketOf, 5, 1, "100040"},
		{"BracketOf", impl.BracketOf, 7, 1, "10000060"},
		{"FirstFactorial", impl.FirstFactorial, 2, 1, "110"},
		{"FirstFactorial", impl.FirstFactorial, 2, 2, "101101000"},
		{"FirstFactorial", impl.FirstFactorial, 3, 1, "1020"},
		{"SecondFactorial", impl.SecondFactorial, 2, 1, "110"},
		{"SecondFactorial", impl.SecondFactorial, 2, 2, "1101100"},
		{"CarlitzFactorial", impl.CarlitzFactorial, 2, 3, "110"},
		{"CarlitzFactorial", impl.CarlitzFactorial, 2, 4, "101101000"},
		{"CarlitzFactorial", impl.CarlitzFactorial, 3, 2, "1"},
		{"CarlitzFactorial", impl.CarlitzFactorial, 3, 3, "1020"},
		{"CarlitzFactorial", impl.CarlitzFactorial, 3, 6, "1010100"},
		{"CarlitzFactorial", impl.CarlitzFactorial, 3, 8, "1010100"},
		{"CarlitzFactorial", impl.CarlitzFactorial, 7, 8, "10000060"},
	} {
		expect(t, c.name, results(c.of(c.p, c.i)), poly(c.want))
	}
	for _, p := range primes {
		expect(t, "FirstFactorial", results(impl.FirstFactorial(p, 0)), impl.Poly{1})
		expect(t, "SecondFactorial", results(impl.SecondFactorial(p, 0)), impl.Poly{1})
		for n := range p {
			expect(t, "CarlitzFactorial", results(impl.CarlitzFactorial(p, n)), impl.Poly{1})
		}
	}
}

// powersApart returns T^(p^i) - T^(p^j), or nothing where even this would be far too great.
func powersApart(p int64, i, j int64) plain {
	most, least := int64(1), int64(1)
	for range i {
		most *= p
	}
	for range j {
		least *= p
	}
	if most > 1<<9 {
		return nil
	}
	return plain{1}.shifted(p, 1, int(most)).plus(p, -1, plain{1}.shifted(p, 1, int(least)))
}

// expectFitting is for what has to be refused if it is nothing, or too long.
func expectFitting(t *testing.T, name string, got []any, want plain) {
	t.Helper()
	if len(want) == 0 || len(want) > impl.MaxDegree+1 {
		expectCode(t, name, got, impl.ErrLimit)
		return
	}
	expect(t, name, got, want.poly(t))
}

// firstBy returns the first factorial, or nothing where it is far too great.
func firstBy(p, i int64) plain {
	factorial := plain{1}
	for j := range i {
		factorial = factorial.times(p, powersApart(p, i, j))
	}
	return factorial
}

func TestBracketsAndFactorials(t *testing.T) {
	for _, p := range primes {
		second := plain{1}
		for i := range int64(7) {
			if i > 0 {
				expectFitting(t, "BracketOf", results(impl.BracketOf(p, i)), powersApart(p, i, 0))
				second = second.times(p, powersApart(p, i, 0))
			}
			expectFitting(t, "FirstFactorial", results(impl.FirstFactorial(p, i)), firstBy(p, i))
			expectFitting(t, "SecondFactorial", results(impl.SecondFactorial(p, i)), second)
		}
	}
}

// The product of all monic polynomials of the degree i is the first factorial of i, and their
// least common multiple is the second.
func TestFactorialsOfMonicPolys(t *testing.T) {
	for _, p := range primes {
		for i := 1; i*int(normOf(p, monomial(i))) <= impl.MaxDegree; i++ {
			all, common := plain{1}, plain{1}
			for m := monomial(i); degreeOf(m) == i; m = nextMonic(p, m) {
				all = all.times(p, plainOf(m))
				common = commonMultiple(p, common, plainOf(m))
			}
			expect(t, "FirstFactorial", results(impl.FirstFactorial(p, int64(i))), all.poly(t))
			expect(t, "SecondFactorial", results(impl.SecondFactorial(p, int64(i))), common.poly(t))
		}
	}
}

// commonMultiple is for monic polynomials, and returns a monic one.
func commonMultiple(p int64, a, b plain) plain {
	x, y := a, b
	for len(y) > 0 {
		_, rest := x.divided(p, y)
		x, y = y, rest
	}
	x = x.times(p, plain{inverseOf(p, x[len(x)-1])})
	quotient, _ := a.divided(p, x)
	return quotient.times(p, b)
}

func TestCarlitzFactorials(t *testing.T) {
	for _, p := range primes {
		for n := range int64(1001) {
			expectFitting(t, "CarlitzFactorial", results(impl.CarlitzFactorial(p, n)), factorialBy(p, n))
		}
	}
}

// factorialBy returns nothing, or something too long, where the factorial is too great.
func factorialBy(p, n int64) plain {
	factorial := plain{1}
	for i := int64(0); n > 0; i++ {
		for range n % p {
			factorial = factorial.times(p, firstBy(p, i))
			if len(factorial) > impl.MaxDegree+1 {
				return nil
			}
		}
		n /= p
	}
	return factorial
}

func TestArgumentsOfChapter4Stay(t *testing.T) {
	s := &sampler{state: 79}
	for _, p := range primes {
		for n := range impl.MaxAction + 1 {
			// The spare capacity behind the lists holds what has to stay as well.
			a, b := s.actions(p, 2*impl.MaxAction+2, 3), s.actions(p, 2*impl.MaxAction+2, 3)
			before, other := slices.Clone(a), slices.Clone(b)
			for _, of := range []func(int64, []impl.Poly, []impl.Poly) ([]impl.Poly, int64){
				impl.AddActions, impl.ComposeActions,
			} {
				for _, list := range [][]impl.Poly{b[:n], b[:impl.MaxAction], nil} {
					first, _ := of(p, a[:n], list)
					want := slices.Clone(first)
					clear(first[:cap(first)])
					second, _ := of(p, a[:n], list)
					if !slices.Equal(a, before) || !slices.Equal(b, other) || !slices.Equal(second, want) {
						t.Errorf("%d: %v and %v became %v and %v", p, before, other, a, b)
					}
				}
			}
		}
	}
}
