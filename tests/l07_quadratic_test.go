package tests

import (
	"slices"
	"testing"

	"loop.example/g01245/impl"
)

// noDiscriminants returns polynomials of other degrees, such as have a square as a divisor, and what
// is no polynomial.
func noDiscriminants(t *testing.T, s *sampler, p int64) []impl.Poly {
	t.Helper()
	list := []impl.Poly{{}, {1}, {byte(p - 1)}, monomial(2), monomial(3), monomial(4), monomial(5), monomial(7), monomial(63), full(p, 63)}
	for _, n := range []int{2, 4, 6, 7, 8, 9} {
		list = append(list, s.irreducible(p, n), plusTimes(p, monomial(n), byte(p-1), impl.Poly{0, 1}))
	}
	// No other divisor of these is the square of a polynomial.
	one, two, three := s.irreducible(p, 1), s.irreducible(p, 2), s.irreducible(p, 3)
	list = append(list, product(t, p, one, one, s.irreducible(p, 3)), product(t, p, two, two, one))
	list = append(list, product(t, p, one, one, impl.Poly{byte(p - 1)}, one), product(t, p, one, one, monomial(1)))
	list = append(list, product(t, p, one, one, three, impl.Poly{2}), product(t, p, one, one, one, two))
	// The derivatives of the powers p are 0.
	list = append(list, plainPower(p, one, int(p)), plusTimes(p, monomial(int(p)), 1, impl.Poly{1}))
	for _, n := range []int{1, 3, 5} {
		for _, at := range []int{0, n, n + 1, 63} {
			for _, c := range []byte{byte(p), 255} {
				wrong := s.discriminant(t, p, n, 1).d
				wrong[at] += c
				if int64(wrong[at]) < p {
					wrong[at] = 255
				}
				list = append(list, wrong)
			}
		}
	}
	return list
}

func TestIsDiscriminant(t *testing.T) {
	s := &sampler{state: 200}
	for _, p := range oddPrimes {
		for _, k := range curves(t, s, p) {
			if !impl.IsDiscriminant(p, k.d) {
				t.Errorf("%d: %v is a discriminant", p, k.d)
			}
			for _, q := range append(notPrimes, 2) {
				if impl.IsDiscriminant(q, k.d) {
					t.Errorf("%d: %v is no discriminant", q, k.d)
				}
			}
		}
		for _, d := range noDiscriminants(t, s, p) {
			if impl.IsDiscriminant(p, d) {
				t.Errorf("%d: %v is no discriminant", p, d)
			}
		}
	}
	for d := (impl.Poly{}); degreeOf(d) <= 6; d = next(2, d) {
		if impl.IsDiscriminant(2, d) {
			t.Errorf("2: %v is no discriminant", d)
		}
	}
}

// Of the polynomials of a degree n of at least 2, those without a square are p^n - p^(n - 1) times
// p - 1.
func TestAllDiscriminants(t *testing.T) {
	most := map[int64]int{3: 6, 5: 4, 7: 3}
	for _, p := range oddPrimes {
		counts := make([]int64, 7)
		for d := (impl.Poly{}); degreeOf(d) <= most[p]; d = next(p, d) {
			want := isDiscriminant(t, p, d)
			if impl.IsDiscriminant(p, d) != want {
				t.Errorf("IsDiscriminant(%d, %v) is not %v", p, d, want)
			}
			if want {
				counts[degreeOf(d)]++
			}
		}
		if counts[1] != (p-1)*p || counts[3] != (p-1)*(p*p*p-p*p) {
			t.Errorf("%d: there are %v discriminants", p, counts)
		}
	}
}

func TestIsForm(t *testing.T) {
	s := &sampler{state: 201}
	for _, p := range oddPrimes {
		great := 0
		for _, k := range curves(t, s, p) {
			for _, f := range append(s.someForms(t, k, impl.MaxForm), unitForm()) {
				if !impl.IsForm(p, k.d, f) {
					t.Errorf("%d, %v: %v is a form", p, k.d, f)
				}
				if degreeOf(f.A) == impl.MaxForm {
					great++
				}
				for _, q := range append(notPrimes, 2) {
					if impl.IsForm(q, k.d, f) {
						t.Errorf("%d, %v: %v is no form", q, k.d, f)
					}
				}
			}
			for _, f := range noForms(t, s, k) {
				if impl.IsForm(p, k.d, f) {
					t.Errorf("%d, %v: %v is no form", p, k.d, f)
				}
			}
		}
		if great == 0 {
			t.Errorf("%d: there is no form of the degree %d", p, impl.MaxForm)
		}
	}
}

// The degree 12 is the greatest one.
func TestGreatestForms(t *testing.T) {
	s := &sampler{state: 209}
	if impl.MaxForm != 12 {
		t.Errorf("MaxForm is %d", impl.MaxForm)
	}
	for _, p := range oddPrimes {
		counts := map[int]int{}
		for _, k := range curves(t, s, p) {
			for _, most := range []int{12, 13} {
				f := s.greatForm(t, k, most)
				n := degreeOf(f.A)
				counts[n]++
				if impl.IsForm(p, k.d, f) != (n <= 12) {
					t.Errorf("IsForm(%d, %v, %v) is %v", p, k.d, f, n > 12)
				}
			}
		}
		if counts[12] == 0 || counts[13] == 0 {
			t.Errorf("%d: the degrees are %v", p, counts)
		}
	}
}

func TestFormsWithoutDiscriminant(t *testing.T) {
	s := &sampler{state: 202}
	for _, p := range oddPrimes {
		for _, d := range noDiscriminants(t, s, p) {
			for _, f := range []impl.Form{unitForm(), {A: monomial(1)}, {A: monomial(1), B: impl.Poly{1}}, {}} {
				if impl.IsForm(p, d, f) {
					t.Errorf("%d: %v has no form %v", p, d, f)
				}
			}
		}
	}
}

// All pairs of polynomials of small degrees are tried, monic or not.
func TestAllForms(t *testing.T) {
	s := &sampler{state: 203}
	most := map[int64]int{3: 2, 5: 1, 7: 1}
	for _, p := range oddPrimes {
		for _, k := range curves(t, s, p) {
			for a := (impl.Poly{}); degreeOf(a) <= most[p]; a = next(p, a) {
				for b := (impl.Poly{}); degreeOf(b) <= most[p]; b = next(p, b) {
					f := impl.Form{A: a, B: b}
					if want := k.isForm(f); impl.IsForm(p, k.d, f) != want {
						t.Errorf("IsForm(%d, %v, %v) is not %v", p, k.d, f, want)
					}
				}
			}
		}
	}
}

func TestReduceForm(t *testing.T) {
	s := &sampler{state: 204}
	for _, p := range oddPrimes {
		seen := map[int]bool{}
		for _, k := range curves(t, s, p) {
			for range 4 {
				for _, f := range s.someForms(t, k, impl.MaxForm) {
					want := k.reduced(t, f)
					expect(t, "ReduceForm", results(impl.ReduceForm(p, k.d, f)), want)
					if degreeOf(want.A) > k.genus() || !impl.IsForm(p, k.d, want) {
						t.Errorf("%d, %v: %v reduced is %v", p, k.d, f, want)
					}
					seen[degreeOf(f.A)-k.genus()] = true
				}
			}
			for _, f := range append(k.reducedForms(), unitForm()) {
				expect(t, "ReduceForm", results(impl.ReduceForm(p, k.d, f)), f)
			}
		}
		if !seen[-2] || !seen[-1] || !seen[0] || !seen[1] || !seen[impl.MaxForm] {
			t.Errorf("%d: the degrees are %v", p, seen)
		}
	}
}

// All forms of the degrees g + 1 and g + 2 are reduced.
func TestReduceSmallForms(t *testing.T) {
	s := &sampler{state: 205}
	for _, p := range oddPrimes {
		for _, n := range []int{1, 3, 5} {
			k := s.discriminant(t, p, n, byte(p-1))
			most := min(k.genus()+2, map[int64]int{3: 4, 5: 3, 7: 2}[p])
			for _, f := range k.formsUpTo(most) {
				expect(t, "ReduceForm", results(impl.ReduceForm(p, k.d, f)), k.reduced(t, f))
			}
		}
	}
}

// A form with different roots of A is composed of those with one root each: B has to have the values
// of theirs.
func TestReducedFormsOfPoints(t *testing.T) {
	s := &sampler{state: 206}
	for _, p := range oddPrimes {
		for _, k := range curves(t, s, p) {
			for range 10 {
				f, points := s.throughPoints(t, k)
				want := unitForm()
				for _, point := range points {
					if k.genus() > 0 {
						want = must[impl.Form](t)(impl.ComposeForms(p, k.d, want, point))
					}
				}
				expect(t, "ReduceForm", results(impl.ReduceForm(p, k.d, f)), want)
			}
		}
	}
}

// throughPoints returns a form, with the forms that have one of its roots each.
func (s *sampler) throughPoints(t *testing.T, k curve) (impl.Form, []impl.Form) {
	t.Helper()
	var points []impl.Form
	a, b := plain{1}, plain{}
	for x := range k.p {
		var roots []int64
		for y := range k.p {
			if k.value(element{x}) == (element{y * y % k.p}) {
				roots = append(roots, y)
			}
		}
		if len(roots) == 0 || s.below(4) == 0 {
			continue
		}
		y := roots[s.below(int64(len(roots)))]
		// A is 0 at the roots before, and so may be added to B.
		times := (y - valueOfPlain(k.p, b, x) + k.p) * inverseOf(k.p, valueOfPlain(k.p, a, x)) % k.p
		b = b.plus(k.p, times, a)
		linear := plain{(k.p - x) % k.p, 1}
		a = a.times(k.p, linear)
		points = append(points, k.form(t, linear, plain{y}.trimmed()))
	}
	return k.form(t, a, b), points
}

func valueOfPlain(p int64, a plain, x int64) int64 {
	value, power := int64(0), int64(1)
	for _, c := range a {
		value = (value + c*power) % p
		power = power * x % p
	}
	return value
}

func TestReduceByHand(t *testing.T) {
	// T^3 - T, divided by T (T + 1), is T + 2.
	three := poly3(3)
	expect(t, "ReduceForm", results(impl.ReduceForm(3, three, impl.Form{A: poly("110")})), impl.Form{A: poly("12")})
	// Here it is T (T + 1) (T + 2), which is all.
	expect(t, "ReduceForm", results(impl.ReduceForm(3, three, impl.Form{A: three})), unitForm())
	// T^3 + 1 - 1, divided by T T, is T, and the rest of -1 is 6.
	cube := poly("1001")
	square := impl.Form{A: poly("100"), B: poly("1")}
	expect(t, "ReduceForm", results(impl.ReduceForm(7, cube, square)), impl.Form{A: poly("10"), B: poly("6")})
	// For lines, only the unit is left: 3 T - 4 is 3 (T + 1).
	expect(t, "ReduceForm", results(impl.ReduceForm(7, poly("30"), impl.Form{A: poly("11"), B: poly("2")})), unitForm())
	// There is one step here: 2 T^5, divided by T^3, leaves T T with 2 taken out.
	great := impl.Form{A: poly("1000"), B: poly("1")}
	expect(t, "ReduceForm", results(impl.ReduceForm(7, poly("200001"), great)), impl.Form{A: poly("100"), B: poly("6")})
}

// expectForms holds the lists of reduced forms, and the class number, against a search.
func expectForms(t *testing.T, k curve) {
	t.Helper()
	want := k.reducedForms()
	expect(t, "ReducedForms", results(impl.ReducedForms(k.p, k.d)), want)
	expect(t, "ClassNumber", results(impl.ClassNumber(k.p, k.d)), int64(len(want)))
}

func TestReducedForms(t *testing.T) {
	s := &sampler{state: 207}
	for _, p := range oddPrimes {
		for _, k := range manyCurves(t, s, p) {
			expectForms(t, k)
		}
	}
}

func TestReducedFormsByHand(t *testing.T) {
	want := []impl.Form{unitForm(), {A: poly("10")}, {A: poly("11")}, {A: poly("12")}}
	expect(t, "ReducedForms", results(impl.ReducedForms(3, poly3(3))), want)
	expect(t, "ClassNumber", results(impl.ClassNumber(3, poly3(3))), int64(4))
	// All values of T^3 - T - 1 are 2, which has no root.
	alone := poly("1022")
	expect(t, "ReducedForms", results(impl.ReducedForms(3, alone)), []impl.Form{unitForm()})
	expect(t, "ClassNumber", results(impl.ClassNumber(3, alone)), int64(1))
	// T^3 + 1 has the values 1, 2, 2, 0, 2, 0, 0 at 0 to 6.
	want = []impl.Form{unitForm(), {A: poly("10"), B: poly("1")}, {A: poly("10"), B: poly("6")}}
	want = append(want, impl.Form{A: poly("11")}, impl.Form{A: poly("12")})
	want = append(want, impl.Form{A: poly("13"), B: poly("3")}, impl.Form{A: poly("13"), B: poly("4")}, impl.Form{A: poly("14")})
	want = append(want, impl.Form{A: poly("15"), B: poly("3")}, impl.Form{A: poly("15"), B: poly("4")})
	want = append(want, impl.Form{A: poly("16"), B: poly("3")}, impl.Form{A: poly("16"), B: poly("4")})
	expect(t, "ReducedForms", results(impl.ReducedForms(7, poly("1001"))), want)
	for _, p := range oddPrimes {
		for c := byte(1); c < byte(p); c++ {
			for x := range byte(p) {
				expect(t, "ReducedForms", results(impl.ReducedForms(p, impl.Poly{x, c})), []impl.Form{unitForm()})
			}
		}
	}
}

func TestListsOfChapter7AreNew(t *testing.T) {
	s := &sampler{state: 208}
	for _, p := range oddPrimes {
		for _, k := range curves(t, s, p) {
			forms := must[[]impl.Form](t)(impl.ReducedForms(p, k.d))
			want := slices.Clone(forms)
			clear(forms[:cap(forms)])
			expect(t, "ReducedForms", results(impl.ReducedForms(p, k.d)), want)
			for _, c := range numbersOfChapter7() {
				list := must[[]int64](t)(c.run(p, k.d))
				before := slices.Clone(list)
				clear(list[:cap(list)])
				expect(t, c.name, results(c.run(p, k.d)), before)
			}
		}
	}
}

// numbersCall is a function that makes a list of numbers of a discriminant.
type numbersCall struct {
	name string
	run  func(p int64, d impl.Poly) ([]int64, int64)
}

func numbersOfChapter7() []numbersCall {
	return []numbersCall{
		{"CountPoints", impl.CountPoints},
		{"CurvePolynomial", impl.CurvePolynomial},
		{"GroupOrders", impl.GroupOrders},
	}
}
