package tests

import (
	"slices"
	"testing"

	"loop.example/g01245/impl"
)

// check reports whether there is a result.
func (e carlitzSeries) check(t *testing.T, p int64, k quotient, n int64) bool {
	t.Helper()
	if !e.fits(p, k, n) {
		expectCode(t, e.name, results(e.of(p, k.a, k.b, n)), impl.ErrLimit)
		return false
	}
	got, want := e.told(t, p, k, n), e.summed(t, p, k, n)
	if !got.equals(p, want) {
		t.Errorf("%s(%d, %v, %v, %d) is %v, want %v", e.name, p, k.a, k.b, n, got, want)
	}
	return true
}

// small returns a quotient of degrees up to most.
func (s *sampler) small(p int64, most int) quotient {
	return quotient{s.upTo(p, most), s.poly(p, int(s.below(int64(most)+1)))}
}

func TestExponentialsAndLogarithms(t *testing.T) {
	s := &sampler{state: 530}
	for _, p := range primes {
		for _, e := range bothSeries() {
			for n := int64(1); n <= 4; n++ {
				fitting, refused := 0, 0
				samples := s.quotients(t, p, impl.MaxDegree)
				for range 400 {
					samples = append(samples, s.small(p, 1), s.small(p, 3), s.small(p, 8))
				}
				for _, k := range samples {
					if e.check(t, p, k, n) {
						fitting++
					} else {
						refused++
					}
				}
				couldFit := e.degree(p, n-1) <= impl.MaxDegree
				if couldFit && fitting < 30 || !couldFit && fitting > 0 || n > 1 && refused < 30 {
					t.Errorf("%s for %d and %d: %d fit, and %d do not", e.name, p, n, fitting, refused)
				}
			}
		}
	}
}

// All quotients of some small polynomials, which have common divisors of all kinds.
func TestExponentialsOfSmallPolys(t *testing.T) {
	for _, p := range primes {
		most := 2
		if p > 3 {
			most = 1
		}
		for _, e := range bothSeries() {
			for n := int64(1); n <= 4; n++ {
				for _, b := range smallPolys(p, most)[1:] {
					for _, a := range smallPolys(p, most) {
						e.check(t, p, quotient{a, b}, n)
					}
				}
			}
		}
	}
}

// checkAtLimit looks for degrees at which the greatest of all is near MaxDegree, and returns for how many
// there is a result, and for how many there is none.
func (e carlitzSeries) checkAtLimit(t *testing.T, s *sampler, p int64) (int, int) {
	t.Helper()
	at, above := 0, 0
	for n := int64(1); n <= 4; n++ {
		for m := -1; m <= impl.MaxDegree; m++ {
			for l := range impl.MaxDegree + 1 {
				k := quotient{s.poly(p, m), s.poly(p, l)}
				most := slices.Max(e.greatest(p, k, n))
				if most <= impl.MaxDegree-p || most > impl.MaxDegree+p {
					continue
				}
				if e.check(t, p, k, n) {
					at++
				} else {
					above++
				}
			}
		}
	}
	return at, above
}

func TestExponentialsAtMaxDegree(t *testing.T) {
	s := &sampler{state: 531}
	for _, p := range primes {
		for _, e := range bothSeries() {
			at, above := e.checkAtLimit(t, s, p)
			if at < 200 || above < 10 {
				t.Errorf("%s for %d: %d below the limit, %d above it", e.name, p, at, above)
			}
		}
	}
}

// Only the common denominator is too great, for a as 0 and for an a that takes b out of it; and only
// a summand of the numerator is, the last one or one before it.
func TestWhatIsTooGreat(t *testing.T) {
	for _, c := range []struct {
		p, n  int64
		a, b  impl.Poly
		codes [2]int64
	}{
		{2, 2, impl.Poly{}, monomial(31), [2]int64{impl.ErrLimit, impl.ErrLimit}},
		{2, 2, impl.Poly{}, monomial(30), [2]int64{impl.ErrNone, impl.ErrNone}},
		{2, 2, monomial(31), monomial(31), [2]int64{impl.ErrLimit, impl.ErrLimit}},
		{2, 2, monomial(30), monomial(30), [2]int64{impl.ErrNone, impl.ErrNone}},
		{2, 2, monomial(31), impl.Poly{1}, [2]int64{impl.ErrNone, impl.ErrNone}},
		{2, 2, monomial(32), impl.Poly{1}, [2]int64{impl.ErrLimit, impl.ErrLimit}},
		{2, 1, monomial(63), impl.Poly{1}, [2]int64{impl.ErrNone, impl.ErrNone}},
		{2, 1, full(2, 63), full(2, 63), [2]int64{impl.ErrNone, impl.ErrNone}},
		// The denominator is b^4, of the degree 52, and the factorial, of 8 or 6.
		{2, 3, impl.Poly{1}, monomial(13), [2]int64{impl.ErrNone, impl.ErrNone}},
		{2, 3, impl.Poly{1}, monomial(14), [2]int64{impl.ErrLimit, impl.ErrNone}},
		{2, 3, impl.Poly{1}, monomial(15), [2]int64{impl.ErrLimit, impl.ErrLimit}},
		// The first summand, of the degree 41 + 24, or 41 + 14, is the greatest here.
		{2, 4, monomial(41), impl.Poly{1}, [2]int64{impl.ErrLimit, impl.ErrLimit}},
		{2, 4, monomial(7), impl.Poly{1}, [2]int64{impl.ErrNone, impl.ErrNone}},
		{2, 4, monomial(8), impl.Poly{1}, [2]int64{impl.ErrLimit, impl.ErrLimit}},
		// The factorials alone decide.
		{3, 4, impl.Poly{}, impl.Poly{2}, [2]int64{impl.ErrLimit, impl.ErrNone}},
		{5, 3, impl.Poly{}, impl.Poly{2}, [2]int64{impl.ErrNone, impl.ErrNone}},
		{5, 4, impl.Poly{}, impl.Poly{2}, [2]int64{impl.ErrLimit, impl.ErrLimit}},
		{7, 3, impl.Poly{}, impl.Poly{2}, [2]int64{impl.ErrLimit, impl.ErrNone}},
		{7, 4, impl.Poly{}, impl.Poly{2}, [2]int64{impl.ErrLimit, impl.ErrLimit}},
		{7, 2, monomial(9), impl.Poly{6}, [2]int64{impl.ErrNone, impl.ErrNone}},
		{7, 2, monomial(10), impl.Poly{6}, [2]int64{impl.ErrLimit, impl.ErrLimit}},
		// The first summand, of the degree 64, is too great, while the other one and the denominator fit.
		{7, 2, monomial(9), monomial(8), [2]int64{impl.ErrLimit, impl.ErrLimit}},
		{7, 2, monomial(8), monomial(8), [2]int64{impl.ErrNone, impl.ErrNone}},
		{7, 2, impl.Poly{1}, monomial(9), [2]int64{impl.ErrLimit, impl.ErrLimit}},
	} {
		for i, e := range bothSeries() {
			expectCode(t, e.name, results(e.of(c.p, c.a, c.b, c.n)), c.codes[i])
			e.check(t, c.p, quotient{c.a, c.b}, c.n)
		}
	}
}

// 0 is 0, over 1, where the common denominator fits.
func TestExponentialsOfZero(t *testing.T) {
	s := &sampler{state: 532}
	for _, p := range primes {
		for _, e := range bothSeries() {
			for n := int64(1); n <= 4; n++ {
				for range 50 {
					k := quotient{b: s.poly(p, int(s.below(8)))}
					if e.fits(p, k, n) {
						expect(t, e.name, results(e.of(p, k.a, k.b, n)), impl.Poly{}, impl.Poly{1})
					}
				}
			}
		}
	}
}

func TestExponentialsByHand(t *testing.T) {
	for _, c := range []struct {
		p, n int64
		a, b string
		// The exponential, and then the logarithm.
		over, under, second, secondUnder string
	}{
		{2, 1, "1", "10", "1", "10", "1", "10"},
		{2, 1, "110", "10", "11", "1", "11", "1"},
		{2, 2, "1", "10", "1101", "11000", "1101", "11000"},
		{3, 1, "20", "200", "1", "10", "1", "10"},
		// T and T^3 / (T^3 - T), added or subtracted.
		{3, 2, "10", "1", "1120", "102", "1220", "102"},
		{3, 2, "1", "1", "1021", "1020", "1022", "1020"},
		// T^3 - T and its power 3 over itself, its power 2.
		{3, 2, "1020", "1", "1011120", "1", "2021220", "1"},
		{5, 1, "10", "2", "30", "1", "30", "1"},
		{5, 2, "3", "1", "300023", "100040", "300022", "100040"},
		{7, 2, "0", "36", "0", "1", "0", "1"},
	} {
		a, b := poly(c.a), poly(c.b)
		expect(t, "ExponentialUpTo", results(impl.ExponentialUpTo(c.p, a, b, c.n)), poly(c.over), poly(c.under))
		expect(t, "LogarithmUpTo", results(impl.LogarithmUpTo(c.p, a, b, c.n)), poly(c.second), poly(c.secondUnder))
	}
}

// eachLed is for samples x and T x for both of which there is a result up to n, of at least 2.
func (e carlitzSeries) eachLed(t *testing.T, s *sampler, p int64, check func(x, led quotient, n int64)) {
	t.Helper()
	found := 0
	for range 300 {
		x := s.small(p, 4)
		led := quotient{product(t, p, x.a, monomial(1)), x.b}
		for n := int64(2); n <= 4; n++ {
			if e.fits(p, x, n) && e.fits(p, led, n) {
				found++
				check(x, led, n)
			}
		}
	}
	if found < 20 {
		t.Errorf("%s for %d: only %d samples are found", e.name, p, found)
	}
}

// The action of T leads the exponential of x, up to n, to that of T x: to T times it, and the power p of
// the exponential up to n - 1.
func TestExponentialsAreLedByT(t *testing.T) {
	s := &sampler{state: 533}
	e := bothSeries()[0]
	for _, p := range primes {
		e.eachLed(t, s, p, func(x, led quotient, n int64) {
			want := rational{plain{0, 1}, plain{1}}.times(p, e.told(t, p, x, n))
			want = want.plus(p, 1, e.told(t, p, x, n-1).raisedTo(int(p)))
			if !e.told(t, p, led, n).equals(p, want) {
				t.Errorf("%d: T does not lead the exponential of %v up to %d", p, x, n)
			}
		})
	}
}

// The logarithm of T x and that of x^p, which is taken up to n - 1, are T times that of x.
func TestLogarithmsAreLedByT(t *testing.T) {
	s := &sampler{state: 534}
	e := bothSeries()[1]
	for _, p := range primes {
		q, found := int(p), 0
		e.eachLed(t, s, p, func(x, led quotient, n int64) {
			raised := quotient{stretchedBy(plainOf(x.a), q).poly(t), stretchedBy(plainOf(x.b), q).poly(t)}
			if !e.fits(p, raised, n-1) {
				return
			}
			found++
			want := rational{plain{0, 1}, plain{1}}.times(p, e.told(t, p, x, n))
			if !e.told(t, p, led, n).plus(p, 1, e.told(t, p, raised, n-1)).equals(p, want) {
				t.Errorf("%d: T does not lead the logarithm of %v up to %d", p, x, n)
			}
		})
		if found < 20 {
			t.Errorf("%d: only %d logarithms are found", p, found)
		}
	}
}
