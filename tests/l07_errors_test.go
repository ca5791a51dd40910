package tests

import (
	"slices"
	"testing"

	"loop.example/g01245/impl"
)

// formCall is a function of chapter 7 with everything but its discriminant and its forms given.
type formCall struct {
	name  string
	forms int
	run   func(p int64, d impl.Poly, f []impl.Form) []any
}

// callsWithForms has numbers out of their ranges, as callsOfChapter1 has.
func callsWithForms() []formCall {
	type poly = impl.Poly
	type forms = []impl.Form
	return []formCall{
		{"ReduceForm", 1, func(p int64, d poly, f forms) []any { return results(impl.ReduceForm(p, d, f[0])) }},
		{"ReducedForms", 0, func(p int64, d poly, f forms) []any { return results(impl.ReducedForms(p, d)) }},
		{"ClassNumber", 0, func(p int64, d poly, f forms) []any { return results(impl.ClassNumber(p, d)) }},
		{"ComposeForms", 2, func(p int64, d poly, f forms) []any { return results(impl.ComposeForms(p, d, f[0], f[1])) }},
		{"InverseForm", 1, func(p int64, d poly, f forms) []any { return results(impl.InverseForm(p, d, f[0])) }},
		{"PowerOfForm", 1, func(p int64, d poly, f forms) []any { return results(impl.PowerOfForm(p, d, f[0], 2)) }},
		{"PowerOfForm", 1, func(p int64, d poly, f forms) []any { return results(impl.PowerOfForm(p, d, f[0], impl.MaxNumber+1)) }},
		{"OrderOfForm", 1, func(p int64, d poly, f forms) []any { return results(impl.OrderOfForm(p, d, f[0])) }},
		{"CountPoints", 0, func(p int64, d poly, f forms) []any { return results(impl.CountPoints(p, d)) }},
		{"CurvePolynomial", 0, func(p int64, d poly, f forms) []any { return results(impl.CurvePolynomial(p, d)) }},
		{"GroupOrders", 0, func(p int64, d poly, f forms) []any { return results(impl.GroupOrders(p, d)) }},
	}
}

// callsOfChapter7 have the discriminant, and then A and B of each form, as their polynomials.
func callsOfChapter7() []call {
	var list []call
	for _, c := range callsWithForms() {
		run := func(p int64, a []impl.Poly) []any {
			var forms []impl.Form
			for i := range c.forms {
				forms = append(forms, impl.Form{A: a[2*i+1], B: a[2*i+2]})
			}
			return c.run(p, a[0], forms)
		}
		list = append(list, call{c.name, 1 + 2*c.forms, run})
	}
	return list
}

// noForms returns what is no form of a discriminant: because of its A, of its B, or as A does not
// divide B B - D.
func noForms(t *testing.T, s *sampler, k curve) []impl.Form {
	t.Helper()
	list := []impl.Form{{}, {B: impl.Poly{1}}, {A: impl.Poly{2}}, {A: impl.Poly{byte(k.p - 1)}}, {A: monomial(63)}}
	// 1 divides everything, but has no B other than 0.
	list = append(list, impl.Form{A: impl.Poly{1}, B: impl.Poly{1}}, impl.Form{A: impl.Poly{1}, B: monomial(40)})
	list = append(list, impl.Form{A: full(k.p, 63), B: full(k.p, 63)}, impl.Form{A: monomial(12), B: monomial(12)})
	for _, f := range s.someForms(t, k, impl.MaxForm) {
		for _, g := range alteredForms(k, f) {
			if impl.IsPoly(k.p, g.A) && impl.IsPoly(k.p, g.B) && k.isForm(g) {
				continue
			}
			list = append(list, g)
		}
	}
	for n := impl.MaxForm + 1; n <= impl.MaxForm+3; n++ {
		if f := s.greatForm(t, k, n); degreeOf(f.A) > impl.MaxForm {
			list = append(list, f)
		}
	}
	return list
}

// alteredForms returns a form with another A or B, some of which may be forms.
func alteredForms(k curve, f impl.Form) []impl.Form {
	var list []impl.Form
	add := func(a, b impl.Poly) { list = append(list, impl.Form{A: a, B: b}) }
	n := degreeOf(f.A)
	// The rests by A are the same.
	add(f.A, plusTimes(k.p, f.B, 1, f.A))
	for c := byte(2); c < byte(k.p); c++ {
		add(plusTimes(k.p, impl.Poly{}, c, f.A), f.B)
	}
	add(f.A, plusTimes(k.p, f.B, 1, impl.Poly{1}))
	add(f.A, plusTimes(k.p, f.B, 1, monomial(n)))
	add(f.A, plusTimes(k.p, f.B, 1, monomial(63)))
	add(plusTimes(k.p, f.A, 1, impl.Poly{1}), f.B)
	add(plusTimes(k.p, f.A, 1, monomial(n+1)), f.B)
	add(f.B, f.A)
	for _, at := range []int{0, max(n-1, 0), n, 63} {
		for _, c := range []byte{byte(k.p), 2 * byte(k.p)} {
			wrong := f
			wrong.A[at] += c
			list = append(list, wrong)
			wrong = f
			wrong.B[at] += c
			list = append(list, wrong)
		}
		wrong := f
		wrong.A[at], wrong.B[at] = 255, 255
		list = append(list, wrong)
	}
	return list
}

func TestWrongDiscriminantsComeFirst(t *testing.T) {
	s := &sampler{state: 250}
	for _, p := range oddPrimes {
		k := s.discriminant(t, p, 3, 1)
		forms := append(s.someForms(t, k, 3), impl.Form{}, unitForm(), impl.Form{A: monomial(1)}, impl.Form{A: monomial(63)})
		for _, f := range forms {
			for _, c := range callsWithForms() {
				list := slices.Repeat([]impl.Form{f}, c.forms)
				for _, d := range noDiscriminants(t, s, p) {
					expectCode(t, c.name, c.run(p, d, list), impl.ErrInvalid)
				}
				for _, q := range append(notPrimes, 2) {
					expectCode(t, c.name, c.run(q, k.d, list), impl.ErrInvalid)
					expectCode(t, c.name, c.run(q, monomial(1), list), impl.ErrInvalid)
				}
			}
		}
	}
}

// The prime 2 has no discriminants.
func TestNoDiscriminantsForTwo(t *testing.T) {
	for _, c := range callsWithForms() {
		for d := (impl.Poly{}); degreeOf(d) <= 5; d = next(2, d) {
			for _, f := range []impl.Form{unitForm(), {A: monomial(1)}, {A: impl.Poly{1, 1}, B: impl.Poly{1}}} {
				got := c.run(2, d, slices.Repeat([]impl.Form{f}, c.forms))
				expectCode(t, c.name, got, impl.ErrInvalid)
			}
		}
	}
}

// Beside what is no form there are forms that are not reduced, and such as are.
func TestWrongFormsComeFirst(t *testing.T) {
	s := &sampler{state: 251}
	for _, p := range oddPrimes {
		for _, k := range curves(t, s, p) {
			others := []impl.Form{unitForm(), s.greatForm(t, k, impl.MaxForm)}
			for _, wrong := range noForms(t, s, k) {
				for _, c := range callsWithForms() {
					for place := range c.forms {
						for _, other := range append(others, wrong) {
							list := slices.Repeat([]impl.Form{other}, c.forms)
							list[place] = wrong
							expectCode(t, c.name, c.run(p, k.d, list), impl.ErrInvalid)
						}
					}
				}
			}
		}
	}
}

// A form of one discriminant is hardly ever one of another one.
func TestFormsOfOtherDiscriminants(t *testing.T) {
	s := &sampler{state: 252}
	for _, p := range oddPrimes {
		for _, n := range []int{1, 3, 5} {
			k, other := s.discriminant(t, p, n, 1), s.discriminant(t, p, n, byte(p-1))
			for _, f := range k.formsUpTo(2) {
				want := int64(impl.ErrInvalid)
				if other.isForm(f) {
					want = impl.ErrNone
				}
				expectCode(t, "ReduceForm", results(impl.ReduceForm(p, other.d, f)), want)
				expectCode(t, "InverseForm", results(impl.InverseForm(p, other.d, f)), want)
			}
		}
	}
}

// noPowers are beyond MaxNumber, and some are in the range when they are cut to fewer bits.
var noPowers = []int64{
	impl.MaxNumber + 1, -impl.MaxNumber - 1, 1<<63 - 1, -1 << 63, -1<<63 + 1, 1 << 40, -1 << 40,
	1 << 62, 1<<62 + 1, 3 << 50,
}

// The range comes before the question if the form is reduced.
func TestPowersOutOfRange(t *testing.T) {
	s := &sampler{state: 253}
	for _, p := range oddPrimes {
		for _, k := range curves(t, s, p) {
			for _, f := range append(s.someForms(t, k, impl.MaxForm), k.reducedForms()...) {
				for _, n := range noPowers {
					expectCode(t, "PowerOfForm", results(impl.PowerOfForm(p, k.d, f, n)), impl.ErrRange)
				}
			}
			for _, n := range []int64{impl.MaxNumber, -impl.MaxNumber} {
				expect(t, "PowerOfForm", results(impl.PowerOfForm(p, k.d, unitForm(), n)), unitForm())
			}
		}
	}
}

func TestFormsThatAreNotReduced(t *testing.T) {
	s := &sampler{state: 254}
	for _, p := range oddPrimes {
		seen := map[int]bool{}
		for _, k := range curves(t, s, p) {
			list := k.reducedForms()
			for _, f := range s.someForms(t, k, impl.MaxForm) {
				want := int64(impl.ErrNone)
				if degreeOf(f.A) > k.genus() {
					want = impl.ErrState
				}
				seen[degreeOf(f.A)-k.genus()] = true
				for _, g := range []impl.Form{f, unitForm(), s.formOf(list)} {
					expectCode(t, "ComposeForms", results(impl.ComposeForms(p, k.d, f, g)), want)
					expectCode(t, "ComposeForms", results(impl.ComposeForms(p, k.d, g, f)), want)
				}
				for _, n := range []int64{0, 1, -1, 2, impl.MaxNumber, -impl.MaxNumber} {
					expectCode(t, "PowerOfForm", results(impl.PowerOfForm(p, k.d, f, n)), want)
				}
				expectCode(t, "OrderOfForm", results(impl.OrderOfForm(p, k.d, f)), want)
				expectCode(t, "ReduceForm", results(impl.ReduceForm(p, k.d, f)), impl.ErrNone)
				expectCode(t, "InverseForm", results(impl.InverseForm(p, k.d, f)), impl.ErrNone)
			}
		}
		if !seen[0] || !seen[1] || !seen[impl.MaxForm] {
			t.Errorf("%d: the degrees are %v", p, seen)
		}
	}
}
