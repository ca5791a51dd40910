package tests

import (
	"math/big"
	"reflect"
	"testing"

	"loop.example/g01245/impl"
)

var primes = []int64{2, 3, 5, 7}

// Some are primes that are too great, and some become a prime when they are cut to fewer bits.
var notPrimes = []int64{
	0, 1, 4, 6, 8, 9, 11, 13, 49, -1, -2, -7, 258, 259, 65538, 1<<32 + 2, -254,
	1<<63 - 1, -1 << 63,
}

// poly reads the digits from the leading one down, without the help of the program.
func poly(digits string) impl.Poly {
	var a impl.Poly
	for i := range digits {
		a[len(digits)-1-i] = digits[i] - '0'
	}
	return a
}

// monomial returns T^i.
func monomial(i int) impl.Poly {
	var a impl.Poly
	a[i] = 1
	return a
}

// full returns the polynomial of a degree all of whose coefficients are p - 1.
func full(p int64, n int) impl.Poly {
	var a impl.Poly
	for i := range n + 1 {
		a[i] = byte(p - 1)
	}
	return a
}

// sampler makes the same polynomials in every run.
type sampler struct {
	state uint64
}

func (s *sampler) below(n int64) int64 {
	s.state = s.state*6364136223846793005 + 1442695040888963407
	return int64(s.state>>33) % n
}

// poly returns a polynomial of exactly the degree n, 0 for -1.
func (s *sampler) poly(p int64, n int) impl.Poly {
	var a impl.Poly
	for i := range n {
		a[i] = byte(s.below(p))
	}
	if n >= 0 {
		a[n] = byte(1 + s.below(p-1))
	}
	return a
}

// upTo returns a polynomial of a degree in -1..n.
func (s *sampler) upTo(p int64, n int) impl.Poly {
	return s.poly(p, int(s.below(int64(n)+2))-1)
}

// monic returns a monic polynomial of the degree n.
func (s *sampler) monic(p int64, n int) impl.Poly {
	a := s.poly(p, n)
	a[n] = 1
	return a
}

// plain is a polynomial with as many coefficients as it needs, none of them 0 at its end.
type plain []int64

func plainOf(a impl.Poly) plain {
	c := make(plain, len(a))
	for i := range a {
		c[i] = int64(a[i])
	}
	return c.trimmed()
}

func (a plain) trimmed() plain {
	for len(a) > 0 && a[len(a)-1] == 0 {
		a = a[:len(a)-1]
	}
	return a
}

// poly fails the test if a does not fit.
func (a plain) poly(t *testing.T) impl.Poly {
	t.Helper()
	var b impl.Poly
	if len(a) > len(b) {
		t.Fatalf("the test's own polynomial %v is too long", a)
	}
	for i := range a {
		b[i] = byte(a[i])
	}
	return b
}

// at returns 0 behind the end.
func (a plain) at(i int) int64 {
	if i < len(a) {
		return a[i]
	}
	return 0
}

// plus returns a and c times b together.
func (a plain) plus(p, c int64, b plain) plain {
	sum := make(plain, max(len(a), len(b)))
	for i := range sum {
		sum[i] = ((a.at(i)+c*b.at(i))%p + p) % p
	}
	return sum.trimmed()
}

func (a plain) times(p int64, b plain) plain {
	product := make(plain, len(a)+len(b)+1)
	for i := range a {
		for j := range b {
			product[i+j] = (product[i+j] + a[i]*b[j]) % p
		}
	}
	return product.trimmed()
}

// shifted returns c times T^n times a.
func (a plain) shifted(p, c int64, n int) plain {
	return append(make(plain, n), a...).times(p, plain{c})
}

func inverseOf(p, c int64) int64 {
	for x := range p {
		if x*c%p == 1 {
			return x
		}
	}
	panic("no inverse")
}

func (a plain) divided(p int64, b plain) (plain, plain) {
	quotient := plain{}
	for len(a) >= len(b) {
		c := a[len(a)-1] * inverseOf(p, b[len(b)-1]) % p
		n := len(a) - len(b)
		quotient = quotient.plus(p, 1, plain{1}.shifted(p, c, n))
		a = a.plus(p, -1, b.shifted(p, c, n))
	}
	return quotient, a
}

func (a plain) number(p int64) *big.Int {
	n := new(big.Int)
	for i := len(a) - 1; i >= 0; i-- {
		n.Mul(n, big.NewInt(p))
		n.Add(n, big.NewInt(a[i]))
	}
	return n
}

func (a plain) equals(b plain) bool {
	a, b = a.trimmed(), b.trimmed()
	return len(a) == 0 && len(b) == 0 || reflect.DeepEqual(a, b)
}

// results gathers all results of a call; the last one is the code.
func results(values ...any) []any {
	return values
}

// expectCode checks the code of a call, and that all else beside an error is zero.
func expectCode(t *testing.T, name string, got []any, want int64) {
	t.Helper()
	last := len(got) - 1
	if got[last] != want {
		t.Errorf("%s: code %v, want %d", name, got[last], want)
	}
	if want == impl.ErrNone {
		return
	}
	for i, value := range got[:last] {
		v := reflect.ValueOf(value)
		if v.Kind() == reflect.Slice && v.Len() > 0 || v.Kind() != reflect.Slice && !v.IsZero() {
			t.Errorf("%s: result %d beside an error is %v", name, i, value)
		}
	}
}

// expect checks all results of a call that returns ErrNone.
func expect(t *testing.T, name string, got []any, want ...any) {
	t.Helper()
	want = append(want, int64(impl.ErrNone))
	if !reflect.DeepEqual(got, want) {
		t.Errorf("%s = %v, want %v", name, got, want)
	}
}
