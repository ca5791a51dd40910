package tests

import (
	"slices"
	"testing"

	"loop.example/g01245/impl"
)

// What follows finds the results of chapter 10 with an arithmetic that has no limits: digits as a
// division of a multiple, convergents from the end of a list on, roots by their squares, and sums of
// fractions over the product of all denominators.

// quotient is a and b, which is not 0.
type quotient struct {
	a, b impl.Poly
}

// quotients returns samples of degrees up to most, at least 62, in both orders: with a as 0 and as a
// number, with a divided by b or b by a, and with common divisors.
func (s *sampler) quotients(t *testing.T, p int64, most int) []quotient {
	var list []quotient
	degrees := []int{0, 1, 2, 3, 7, 20, 31, 32, 61, 62, most}
	for _, n := range degrees {
		b := s.poly(p, n)
		list = append(list, quotient{b: b}, quotient{b, b}, quotient{full(p, n), monomial(n)})
		for _, m := range degrees {
			list = append(list, quotient{s.poly(p, m), b}, quotient{monomial(m), s.poly(p, n)})
			if n+m <= most {
				other := product(t, p, b, s.poly(p, m))
				list = append(list, quotient{other, b}, quotient{b, other})
				left := most - n - m
				x, y := s.poly(p, int(s.below(int64(left)+1))), s.poly(p, int(s.below(int64(left)+1)))
				list = append(list, quotient{product(t, p, other, x), product(t, p, other, y)})
			}
		}
	}
	return list
}

// partialsBy divides without a limit.
func partialsBy(t *testing.T, p int64, k quotient) []impl.Poly {
	t.Helper()
	var list []impl.Poly
	a, b := plainOf(k.a), plainOf(k.b)
	for len(b) > 0 {
		q, rest := a.divided(p, b)
		list = append(list, q.poly(t))
		a, b = b, rest
	}
	return list
}

// convergentBy goes from the end of a list on: a fraction is a polynomial, and 1 divided by what is
// behind it.
func convergentBy(p int64, list []impl.Poly) (plain, plain) {
	over, under := plain{1}, plain{}
	for _, q := range slices.Backward(list) {
		over, under = under.plus(p, 1, plainOf(q).times(p, over)), over
	}
	return over, under
}

// partials returns a list of polynomials of degrees of at least 1, but for the first one, whose
// degrees make at most room.
func (s *sampler) partials(p int64, count, room int) []impl.Poly {
	list := []impl.Poly{s.upTo(p, min(2, room-count+1))}
	room -= max(degreeOf(list[0]), 0)
	for left := count - 1; left > 0; left-- {
		n := 1 + int(s.below(int64(min(room-left+1, 5))))
		list = append(list, s.poly(p, n))
		room -= n
	}
	return list
}

// crosswise returns the difference of the crosswise products of two fractions.
func crosswise(p int64, over, under, otherOver, otherUnder impl.Poly) plain {
	return plainOf(over).times(p, plainOf(otherUnder)).plus(p, -1, plainOf(otherOver).times(p, plainOf(under)))
}

// squareCases returns samples of square cases for an odd p, also squares, and some next to them.
func (s *sampler) squareCases(t *testing.T, p int64) []impl.Poly {
	var list []impl.Poly
	for g := range 32 {
		d := s.monic(p, g)
		square := product(t, p, d, d)
		list = append(list, square, product(t, p, monomial(g), monomial(g)), s.monic(p, 2*g))
		for i := range 2 * g {
			list = append(list, plusTimes(p, square, byte(1+s.below(p-1)), monomial(i)))
		}
	}
	return list
}

// rational is a fraction without limits, whose denominator is not 0.
type rational struct {
	over, under plain
}

func (f rational) plus(p, c int64, g rational) rational {
	over := f.over.times(p, g.under).plus(p, c, g.over.times(p, f.under))
	return rational{over, f.under.times(p, g.under)}
}

func (f rational) times(p int64, g rational) rational {
	return rational{f.over.times(p, g.over), f.under.times(p, g.under)}
}

func (f rational) equals(p int64, g rational) bool {
	return len(f.plus(p, -1, g).over) == 0
}

// raisedTo returns the power q, which is a power of p.
func (f rational) raisedTo(q int) rational {
	return rational{stretchedBy(f.over, q), stretchedBy(f.under, q)}
}

// stretchedBy puts T^q in the place of T.
func stretchedBy(a plain, q int) plain {
	var power plain
	for i, c := range a {
		power = append(power, make(plain, max(i*q-len(power), 0))...)
		power = append(power, c)
	}
	return power
}

// carlitzSeries is the exponential or the logarithm.
type carlitzSeries struct {
	name string
	of   func(p int64, a, b impl.Poly, n int64) (impl.Poly, impl.Poly, int64)
	// factorial is the function of chapter 4, and degree tells its degree, also if it is too great.
	factorial func(p, i int64) (impl.Poly, int64)
	degree    func(p, i int64) int64
	sign      int64
}

func bothSeries() []carlitzSeries {
	first := func(p, i int64) int64 { return i * powerOfNumber(p, i) }
	second := func(p, i int64) int64 {
		total := int64(0)
		for j := range i {
			total += powerOfNumber(p, j+1)
		}
		return total
	}
	return []carlitzSeries{
		{"ExponentialUpTo", impl.ExponentialUpTo, impl.FirstFactorial, first, 1},
		{"LogarithmUpTo", impl.LogarithmUpTo, impl.SecondFactorial, second, -1},
	}
}

func powerOfNumber(p, i int64) int64 {
	power := int64(1)
	for range i {
		power *= p
	}
	return power
}

// greatest returns the degrees of the common denominator and of all summands over it, which are -1
// if a is 0.
func (e carlitzSeries) greatest(p int64, k quotient, n int64) []int64 {
	m, l := int64(degreeOf(k.a)), int64(degreeOf(k.b))
	under := l*powerOfNumber(p, n-1) + e.degree(p, n-1)
	list := []int64{under}
	for i := range n {
		summand := int64(-1)
		if m >= 0 {
			q := powerOfNumber(p, i)
			summand = m*q + under - l*q - e.degree(p, i)
		}
		list = append(list, summand)
	}
	return list
}

func (e carlitzSeries) fits(p int64, k quotient, n int64) bool {
	return slices.Max(e.greatest(p, k, n)) <= impl.MaxDegree
}

// summed returns the sum, for factorials that fit.
func (e carlitzSeries) summed(t *testing.T, p int64, k quotient, n int64) rational {
	t.Helper()
	total, sign := rational{plain{}, plain{1}}, int64(1)
	x := rational{plainOf(k.a), plainOf(k.b)}
	for i := range n {
		power := x.raisedTo(int(powerOfNumber(p, i)))
		factorial := plainOf(must[impl.Poly](t)(e.factorial(p, i)))
		total = total.plus(p, sign, power.times(p, rational{plain{1}, factorial}))
		sign *= e.sign
	}
	return total
}

// told returns what the program tells, and fails the test if it is not in lowest terms.
func (e carlitzSeries) told(t *testing.T, p int64, k quotient, n int64) rational {
	t.Helper()
	over, under, code := e.of(p, k.a, k.b, n)
	if code != impl.ErrNone {
		t.Fatalf("%s(%d, %v, %v, %d) has the code %d", e.name, p, k.a, k.b, n, code)
	}
	common := must[impl.Poly](t)(impl.GcdOf(p, over, under))
	if m := degreeOf(under); m < 0 || under[m] != 1 || common != (impl.Poly{1}) {
		t.Errorf("%s(%d, %v, %v, %d) is %v and %v", e.name, p, k.a, k.b, n, over, under)
	}
	return rational{plainOf(over), plainOf(under)}
}
