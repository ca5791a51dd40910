package tests

import (
	"slices"
	"testing"

	"loop.example/g01245/impl"
)

// polynomialBy makes the L polynomial of the numbers of points as the document tells.
func (k curve) polynomialBy(t *testing.T, points []int64) []int64 {
	t.Helper()
	p := k.p
	first, second := points[0]-(p+1), points[1]-(p*p+1)
	if (second+first*first)%2 != 0 {
		t.Errorf("%d, %v: the points %v make no whole number", p, k.d, points)
	}
	switch degreeOf(k.d) {
	case 1:
		return []int64{1}
	case 3:
		return []int64{1, first, p}
	}
	return []int64{1, first, (second + first*first) / 2, p * first, p * p}
}

func sumOf(list []int64) int64 {
	sum := int64(0)
	for _, c := range list {
		sum += c
	}
	return sum
}

// expectPoints holds all that is told by points against a search for them, and against the class
// number.
func expectPoints(t *testing.T, k curve) {
	t.Helper()
	points := k.points()
	polynomial := k.polynomialBy(t, points)
	expect(t, "CountPoints", results(impl.CountPoints(k.p, k.d)), points)
	expect(t, "CurvePolynomial", results(impl.CurvePolynomial(k.p, k.d)), polynomial)
	if class := int64(len(k.reducedForms())); sumOf(polynomial) != class {
		t.Errorf("%d, %v: %v has another sum than %d", k.p, k.d, polynomial, class)
	}
}

func TestCountPoints(t *testing.T) {
	s := &sampler{state: 240}
	for _, p := range oddPrimes {
		for _, k := range manyCurves(t, s, p) {
			expectPoints(t, k)
		}
	}
}

// The same points are told by the field of the residues modulo an irreducible polynomial.
func TestPointsByResidues(t *testing.T) {
	s := &sampler{state: 241}
	for _, p := range oddPrimes {
		fields := []*tower{towerOf(p, s.irreducible(p, 1)), towerOf(p, s.irreducible(p, 2))}
		for _, k := range curves(t, s, p) {
			var want []int64
			for _, f := range fields {
				count := int64(1)
				for _, x := range f.all {
					value := f.valueOf(k.d, x)
					for _, y := range f.all {
						if f.times(y, y) == value {
							count++
						}
					}
				}
				want = append(want, count)
			}
			expect(t, "CountPoints", results(impl.CountPoints(p, k.d)), want)
		}
	}
}

// valueOf replaces T by x in a.
func (k *tower) valueOf(a, x impl.Poly) impl.Poly {
	var value impl.Poly
	power := impl.Poly{1}
	for _, c := range a[:degreeOf(a)+1] {
		value = plusTimes(k.p, value, c, power)
		power = k.times(power, x)
	}
	return value
}

// The coefficients of the L polynomial are sums over monic polynomials: each has, for each of its
// irreducible factors, the number of roots of D, less 1, as a factor.
func TestCurvePolynomialByCharacters(t *testing.T) {
	s := &sampler{state: 242}
	for _, p := range oddPrimes {
		for _, k := range curves(t, s, p) {
			got := must[[]int64](t)(impl.CurvePolynomial(p, k.d))
			most := k.genus()
			if p == 3 {
				most = 2 * k.genus()
			}
			if len(got) != 2*k.genus()+1 {
				t.Fatalf("CurvePolynomial(%d, %v) = %v", p, k.d, got)
			}
			for n, c := range got[:most+1] {
				if want := k.sumOfCharacters(t, n); c != want {
					t.Errorf("CurvePolynomial(%d, %v) has %d at %d, not %d", p, k.d, c, n, want)
				}
			}
			// Behind the middle, the coefficients are those before it, times powers of p.
			power := int64(1)
			for n := k.genus() - 1; n >= 0; n-- {
				power *= p
				if got[2*k.genus()-n] != power*got[n] {
					t.Errorf("CurvePolynomial(%d, %v) = %v", p, k.d, got)
				}
			}
		}
	}
}

func TestPointsByHand(t *testing.T) {
	// Lines have one point for each element, and one more.
	for _, p := range oddPrimes {
		for c := byte(1); c < byte(p); c++ {
			for x := range byte(p) {
				expect(t, "CountPoints", results(impl.CountPoints(p, impl.Poly{x, c})), []int64{p + 1, p*p + 1})
				expect(t, "CurvePolynomial", results(impl.CurvePolynomial(p, impl.Poly{x, c})), []int64{1})
			}
		}
	}
	expect(t, "CountPoints", results(impl.CountPoints(3, poly3(3))), []int64{4, 16})
	expect(t, "CurvePolynomial", results(impl.CurvePolynomial(3, poly3(3))), []int64{1, 0, 3})
	// T^3 - T - 1 has no value with a root.
	expect(t, "CountPoints", results(impl.CountPoints(3, poly("1022"))), []int64{1, 7})
	expect(t, "CurvePolynomial", results(impl.CurvePolynomial(3, poly("1022"))), []int64{1, -3, 3})
	// Its opposite has one with two roots everywhere.
	expect(t, "CountPoints", results(impl.CountPoints(3, poly("2011"))), []int64{7, 7})
	expect(t, "CurvePolynomial", results(impl.CurvePolynomial(3, poly("2011"))), []int64{1, 3, 3})
	expect(t, "CountPoints", results(impl.CountPoints(7, poly("1001"))), []int64{12, 48})
	expect(t, "CurvePolynomial", results(impl.CurvePolynomial(7, poly("1001"))), []int64{1, 4, 7})
	// In the field of 25 elements, T^5 - T has values other than 0 whose power 12 is -1.
	expect(t, "CountPoints", results(impl.CountPoints(5, poly("100040"))), []int64{6, 6})
	expect(t, "CurvePolynomial", results(impl.CurvePolynomial(5, poly("100040"))), []int64{1, 0, -10, 0, 25})
}

// Points are counted by goroutines, and always come in the same order.
func TestPointsStayTheSame(t *testing.T) {
	s := &sampler{state: 243}
	k := s.discriminant(t, 7, 5, 3)
	want := k.points()
	answers := make(chan []int64)
	for range 20 {
		go func() {
			list, _ := impl.CountPoints(k.p, k.d)
			answers <- list
		}()
	}
	for range 20 {
		if got := <-answers; !slices.Equal(got, want) {
			t.Errorf("CountPoints = %v, want %v", got, want)
		}
	}
}
