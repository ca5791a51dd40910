package tests

import (
	"slices"
	"testing"

	"loop.example/g01245/impl"
)

// What follows finds the results of chapter 7 by trying everything, or step by step as the document
// tells, with other factors of common divisors than those of the program.

// oddPrimes are those that have discriminants.
var oddPrimes = []int64{3, 5, 7}

// curve is a discriminant with its prime.
type curve struct {
	p int64
	d impl.Poly
}

func unitForm() impl.Form {
	return impl.Form{A: impl.Poly{1}}
}

func (k curve) genus() int {
	return degreeOf(k.d) / 2
}

// hasSquare reports whether the square of a polynomial of a degree of at least 1 divides a.
func hasSquare(t *testing.T, p int64, a impl.Poly) bool {
	t.Helper()
	for m := monomial(1); 2*degreeOf(m) <= degreeOf(a); m = nextMonic(p, m) {
		if restBy(p, a, product(t, p, m, m)) == (impl.Poly{}) {
			return true
		}
	}
	return false
}

// isDiscriminant goes by the definition, for a polynomial for p.
func isDiscriminant(t *testing.T, p int64, d impl.Poly) bool {
	t.Helper()
	n := degreeOf(d)
	return p > 2 && (n == 1 || n == 3 || n == 5) && !hasSquare(t, p, d)
}

// excess returns B B - D, for a B of a degree less than 32.
func (k curve) excess(b impl.Poly) impl.Poly {
	var a impl.Poly
	for i := range degreeOf(b) + 1 {
		for j := range degreeOf(b) + 1 {
			a[i+j] = (a[i+j] + b[i]*b[j]) % byte(k.p)
		}
	}
	return plusTimes(k.p, a, byte(k.p-1), k.d)
}

// isForm is for polynomials A and B.
func (k curve) isForm(f impl.Form) bool {
	n := degreeOf(f.A)
	if n < 0 || n > impl.MaxForm || f.A[n] != 1 || degreeOf(f.B) >= n {
		return false
	}
	return restBy(k.p, k.excess(f.B), f.A) == (impl.Poly{})
}

// formsUpTo tries all pairs of A of degrees up to most, and of B.
func (k curve) formsUpTo(most int) []impl.Form {
	var list []impl.Form
	for a := (impl.Poly{1}); degreeOf(a) <= most; a = nextMonic(k.p, a) {
		for _, b := range residues(k.p, a) {
			if restBy(k.p, k.excess(b), a) == (impl.Poly{}) {
				list = append(list, impl.Form{A: a, B: b})
			}
		}
	}
	return list
}

func (k curve) reducedForms() []impl.Form {
	return k.formsUpTo(k.genus())
}

// quotient fails the test if there is a rest.
func (k curve) quotient(t *testing.T, a, b plain) plain {
	t.Helper()
	q, rest := a.divided(k.p, b)
	if len(rest) > 0 {
		t.Fatalf("%d, %v: the test's own %v divided by %v has a rest", k.p, k.d, a, b)
	}
	return q
}

func (k curve) form(t *testing.T, a, b plain) impl.Form {
	t.Helper()
	return impl.Form{A: a.poly(t), B: b.poly(t)}
}

func (k curve) inverse(t *testing.T, f impl.Form) impl.Form {
	t.Helper()
	_, b := plain{}.plus(k.p, -1, plainOf(f.B)).divided(k.p, plainOf(f.A))
	return k.form(t, plainOf(f.A), b)
}

// reduced goes step by step.
func (k curve) reduced(t *testing.T, f impl.Form) impl.Form {
	t.Helper()
	a, b := plainOf(f.A), plainOf(f.B)
	for len(a)-1 > k.genus() {
		a = k.quotient(t, plainOf(k.d).plus(k.p, -1, b.times(k.p, b)), a)
		a = a.times(k.p, plain{inverseOf(k.p, a[len(a)-1])})
		_, b = plain{}.plus(k.p, -1, b).divided(k.p, a)
	}
	return k.form(t, a, b)
}

// united returns the composition of two forms, which need not be reduced, before it is reduced
// itself. The last two of the three polynomials are divided first, and then multiples of the others
// are added to r, s and t that leave the common divisor as it is.
func (k curve) united(t *testing.T, s *sampler, f, g impl.Form) impl.Form {
	t.Helper()
	p, a, b, c, e := k.p, plainOf(f.A), plainOf(f.B), plainOf(g.A), plainOf(g.B)
	both := b.plus(p, 1, e)
	first, third, second := factorsBySteps(p, both, c)
	d, times, r := factorsBySteps(p, first, a)
	second, third = times.times(p, second), times.times(p, third)
	x, y, z := plainOf(s.upTo(p, 2)), plainOf(s.upTo(p, 2)), plainOf(s.upTo(p, 2))
	r = r.plus(p, 1, x.times(p, c)).plus(p, 1, y.times(p, both))
	second = second.plus(p, -1, x.times(p, a)).plus(p, 1, z.times(p, both))
	third = third.plus(p, -1, y.times(p, a)).plus(p, -1, z.times(p, c))
	sum := r.times(p, a).plus(p, 1, second.times(p, c)).plus(p, 1, third.times(p, both))
	if !sum.equals(d) {
		t.Fatalf("%d, %v: the test's own factors for %v and %v make %v", p, k.d, f, g, sum)
	}
	numerator := r.times(p, a.times(p, e)).plus(p, 1, second.times(p, c.times(p, b)))
	numerator = numerator.plus(p, 1, third.times(p, b.times(p, e).plus(p, 1, plainOf(k.d))))
	united := k.quotient(t, a.times(p, c), d.times(p, d))
	_, rest := k.quotient(t, numerator, d).divided(p, united)
	return k.form(t, united, rest)
}

func (k curve) composed(t *testing.T, s *sampler, f, g impl.Form) impl.Form {
	t.Helper()
	return k.reduced(t, k.united(t, s, f, g))
}

// powersOf returns the powers 0, 1, .. of a reduced form, up to the last one before the unit comes
// again.
func (k curve) powersOf(t *testing.T, s *sampler, f impl.Form) []impl.Form {
	t.Helper()
	list := []impl.Form{unitForm()}
	for power := f; power != unitForm(); power = k.composed(t, s, power, f) {
		list = append(list, power)
		if len(list) > 1000 {
			t.Fatalf("%d, %v: the test's own powers of %v do not end", k.p, k.d, f)
		}
	}
	return list
}

// element is a number together with another one, times a root of a number that has none modulo p.
type element [2]int64

// elements returns all of a field, without roots or with them.
func elements(p int64, degree int) []element {
	var list []element
	for x := range p {
		for y := range p {
			if degree == 2 || y == 0 {
				list = append(list, element{x, y})
			}
		}
	}
	return list
}

// nonsquare returns a number that has no root modulo p.
func nonsquare(p int64) int64 {
	squares := map[int64]bool{}
	for x := range p {
		squares[x*x%p] = true
	}
	n := int64(0)
	for squares[n] {
		n++
	}
	return n
}

func (x element) times(p int64, y element) element {
	n := nonsquare(p)
	return element{(x[0]*y[0] + n*x[1]*y[1]) % p, (x[0]*y[1] + x[1]*y[0]) % p}
}

// value adds up the powers of x.
func (k curve) value(x element) element {
	var value element
	power := element{1}
	for _, c := range k.d[:degreeOf(k.d)+1] {
		value[0] = (value[0] + int64(c)*power[0]) % k.p
		value[1] = (value[1] + int64(c)*power[1]) % k.p
		power = power.times(k.p, x)
	}
	return value
}

// points tries all pairs of elements of the fields for p and p p.
func (k curve) points() []int64 {
	var counts []int64
	for degree := 1; degree <= 2; degree++ {
		all := elements(k.p, degree)
		var squares []element
		for _, y := range all {
			squares = append(squares, y.times(k.p, y))
		}
		count := int64(1)
		for _, x := range all {
			value := k.value(x)
			for _, square := range squares {
				if square == value {
					count++
				}
			}
		}
		counts = append(counts, count)
	}
	return counts
}

// character returns for a monic m how many roots D has modulo each of its factors, less 1, all
// multiplied.
func (k curve) character(t *testing.T, m impl.Poly, known map[impl.Poly]int64) int64 {
	t.Helper()
	all := int64(1)
	for _, f := range factorsByTrying(t, k.p, m) {
		if _, ok := known[f.Prime]; !ok {
			roots := int64(0)
			for _, b := range residues(k.p, f.Prime) {
				if restBy(k.p, k.excess(b), f.Prime) == (impl.Poly{}) {
					roots++
				}
			}
			known[f.Prime] = roots - 1
		}
		for range f.Power {
			all *= known[f.Prime]
		}
	}
	return all
}

// sumOfCharacters adds up those of all monic polynomials of the degree n.
func (k curve) sumOfCharacters(t *testing.T, n int) int64 {
	t.Helper()
	sum, known := int64(0), map[impl.Poly]int64{}
	for m := monomial(n); degreeOf(m) == n; m = nextMonic(k.p, m) {
		sum += k.character(t, m, known)
	}
	return sum
}

// discriminant returns a sample of the degree n with a leading coefficient.
func (s *sampler) discriminant(t *testing.T, p int64, n int, leading byte) curve {
	t.Helper()
	for {
		d := s.poly(p, n)
		d[n] = leading
		if isDiscriminant(t, p, d) {
			return curve{p, d}
		}
	}
}

// curves returns discriminants of all degrees: samples, monic and not, irreducible ones, and T - x
// alone or with more factors.
func curves(t *testing.T, s *sampler, p int64) []curve {
	t.Helper()
	var list []curve
	for _, n := range []int{1, 3, 5} {
		for leading := byte(1); leading < byte(p); leading++ {
			list = append(list, s.discriminant(t, p, n, leading))
		}
		m := s.irreducible(p, n)
		list = append(list, curve{p, m}, curve{p, plusTimes(p, impl.Poly{}, byte(p-1), m)})
	}
	list = append(list, curve{p, monomial(1)}, curve{p, impl.Poly{0, byte(p - 1)}})
	list = append(list, curve{p, poly3(p)}, curve{p, plusTimes(p, monomial(5), byte(p-1), monomial(1))})
	return list
}

// manyCurves returns all discriminants up to the degree that leaves them few, with more samples of
// the degrees 3 and 5.
func manyCurves(t *testing.T, s *sampler, p int64) []curve {
	t.Helper()
	list := curves(t, s, p)
	most := map[int64]int{3: 5, 5: 3, 7: 1}[p]
	for d := (impl.Poly{}); degreeOf(d) <= most; d = next(p, d) {
		if isDiscriminant(t, p, d) {
			list = append(list, curve{p, d})
		}
	}
	for range 40 {
		for _, n := range []int{3, 5} {
			list = append(list, s.discriminant(t, p, n, byte(1+s.below(p-1))))
		}
	}
	return list
}

// poly3 returns T^3 - T.
func poly3(p int64) impl.Poly {
	return plusTimes(p, monomial(3), byte(p-1), monomial(1))
}

// growing returns forms of degrees that ascend up to most, each of which is united of the one before
// it and of a small one.
func (s *sampler) growing(t *testing.T, k curve, most int) []impl.Form {
	t.Helper()
	parts := k.formsUpTo(2)
	list := []impl.Form{unitForm()}
	last := unitForm()
	for tries := 0; degreeOf(last.A) < most && tries < 20; tries++ {
		longer := k.united(t, s, last, s.formOf(parts))
		if low, high := degreeOf(last.A), degreeOf(longer.A); low < high && high <= most {
			last, tries = longer, 0
			list = append(list, last)
		}
	}
	return list
}

// greatForm returns a form of the degree n, or of the greatest lesser one that is reached.
func (s *sampler) greatForm(t *testing.T, k curve, n int) impl.Form {
	t.Helper()
	list := s.growing(t, k, n)
	return list[len(list)-1]
}

// someForms returns forms of all degrees up to most that are reached.
func (s *sampler) someForms(t *testing.T, k curve, most int) []impl.Form {
	t.Helper()
	list := make([]impl.Form, most+1)
	for range 3 {
		for _, f := range s.growing(t, k, most) {
			list[degreeOf(f.A)] = f
		}
	}
	return slices.DeleteFunc(list, func(f impl.Form) bool { return f == impl.Form{} })
}

// formOf returns one of a list.
func (s *sampler) formOf(list []impl.Form) impl.Form {
	return list[s.below(int64(len(list)))]
}
