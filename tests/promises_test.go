package tests

import (
	"testing"

	"loop.example/g01245/impl"
)

// must hands on the result of a call that has to return ErrNone.
func must[R any](t *testing.T) func(R, int64) R {
	return func(result R, code int64) R {
		t.Helper()
		if code != impl.ErrNone {
			t.Fatalf("code %d", code)
		}
		return result
	}
}

// Promise 1: quotients and rests lead back, factors tell the greatest common divisor, and
// polynomials come back from their texts.
func TestPromise1(t *testing.T) {
	s := &sampler{state: 13}
	ok := must[impl.Poly](t)
	for _, p := range primes {
		for range 300 {
			a, b := s.poly(p, int(s.below(64))), s.poly(p, int(s.below(64)))
			q, r, code := impl.DividePolys(p, a, b)
			if code != impl.ErrNone || must[int64](t)(impl.DegreeOf(p, r)) >= must[int64](t)(impl.DegreeOf(p, b)) {
				t.Errorf("%d: %v divided by %v has the rest %v, code %d", p, a, b, r, code)
			}
			if ok(impl.AddPolys(p, ok(impl.MultiplyPolys(p, q, b)), r)) != a {
				t.Errorf("%d: %v divided by %v does not lead back", p, a, b)
			}
			text := must[string](t)(impl.PolyText(p, a))
			if ok(impl.ParsePoly(p, text)) != a {
				t.Errorf("%d: %v does not come back from %q", p, a, text)
			}
			checkFactors(t, p, a, b)
		}
	}
}

// checkFactors multiplies without the program, for the products may exceed MaxDegree before they
// are added.
func checkFactors(t *testing.T, p int64, a, b impl.Poly) {
	t.Helper()
	d, u, v, code := impl.BezoutOf(p, a, b)
	left := plainOf(u).times(p, plainOf(a))
	right := plainOf(v).times(p, plainOf(b))
	if code != impl.ErrNone || !left.plus(p, 1, right).equals(plainOf(d)) {
		t.Errorf("%d: the factors of %v and %v are %v and %v, code %d", p, a, b, u, v, code)
	}
	if must[impl.Poly](t)(impl.GcdOf(p, a, b)) != d {
		t.Errorf("%d: GcdOf %v and %v is not %v", p, a, b, d)
	}
	for _, c := range []impl.Poly{a, b} {
		if _, rest, _ := impl.DividePolys(p, c, d); rest != (impl.Poly{}) {
			t.Errorf("%d: %v does not divide %v", p, d, c)
		}
	}
	if n := must[int64](t)(impl.DegreeOf(p, d)); d[n] != 1 {
		t.Errorf("%d: %v is not monic", p, d)
	}
}

// The guarantee at the end of chapter 1, where it says more than the promise.
func TestGuaranteeOfChapter1(t *testing.T) {
	s := &sampler{state: 14}
	ok := must[impl.Poly](t)
	for _, p := range primes {
		for range 200 {
			a, b, c := s.upTo(p, 31), s.upTo(p, 31), s.upTo(p, 31)
			product := ok(impl.MultiplyPolys(p, a, b))
			if product != ok(impl.MultiplyPolys(p, b, a)) {
				t.Errorf("%d: %v and %v do not commute", p, a, b)
			}
			sum := ok(impl.AddPolys(p, a, b))
			apart := ok(impl.AddPolys(p, ok(impl.MultiplyPolys(p, a, c)), ok(impl.MultiplyPolys(p, b, c))))
			if ok(impl.MultiplyPolys(p, sum, c)) != apart {
				t.Errorf("%d: %v, %v and %v do not distribute", p, a, b, c)
			}
			small, k, m := s.upTo(p, 7), s.below(10), s.poly(p, int(s.below(64)))
			_, rest, _ := impl.DividePolys(p, ok(impl.PowerOf(p, small, k)), m)
			if ok(impl.PowerModulo(p, small, k, m)) != rest {
				t.Errorf("%d: the power %d of %v modulo %v is not that of the power", p, k, small, m)
			}
			n := s.below(impl.MaxNumber + 1)
			if must[int64](t)(impl.NumberOfPoly(p, ok(impl.PolyOfNumber(p, n)))) != n {
				t.Errorf("%d: %d does not come back", p, n)
			}
		}
	}
}
