package tests

import (
	"testing"

	"loop.example/g01245/impl"
)

// What follows finds the results of chapter 4 by the definitions: the action of T step by step,
// words of T and tau, and a trial of all polynomials and residues.

// carlitz is the residues modulo a monic m with the Carlitz action.
type carlitz struct {
	p    int64
	m    impl.Poly
	seen map[impl.Poly]impl.Poly
}

func carlitzOf(p int64, m impl.Poly) *carlitz {
	return &carlitz{p, m, map[impl.Poly]impl.Poly{}}
}

// plusTimes returns x and c times y together.
func plusTimes(p int64, x impl.Poly, c byte, y impl.Poly) impl.Poly {
	for i := range x {
		x[i] = (x[i] + c*y[i]) % byte(p)
	}
	return x
}

// powerBy takes a power of a residue by as many products.
func powerBy(p int64, x impl.Poly, times int64, m impl.Poly) impl.Poly {
	power := impl.Poly{1}
	for range times {
		power = productBy(p, power, x, m)
	}
	return power
}

// turned returns what T makes of a residue.
func (k *carlitz) turned(x impl.Poly) impl.Poly {
	if y, known := k.seen[x]; known {
		return y
	}
	y := productBy(k.p, restBy(k.p, monomial(1), k.m), x, k.m)
	y = plusTimes(k.p, y, 1, powerBy(k.p, x, k.p, k.m))
	k.seen[x] = y
	return y
}

// act returns what a makes of a residue.
func (k *carlitz) act(a, x impl.Poly) impl.Poly {
	var value impl.Poly
	for i := range degreeOf(a) + 1 {
		value = plusTimes(k.p, value, a[i], x)
		x = k.turned(x)
	}
	return value
}

// annihilator tries all monic polynomials.
func (k *carlitz) annihilator(x impl.Poly) impl.Poly {
	a := impl.Poly{1}
	for k.act(a, x) != (impl.Poly{}) {
		a = nextMonic(k.p, a)
	}
	return a
}

// leadsAllToZero reports whether a takes all residues of a list to 0.
func (k *carlitz) leadsAllToZero(a impl.Poly, list []impl.Poly) bool {
	for _, x := range list {
		if k.act(a, x) != (impl.Poly{}) {
			return false
		}
	}
	return true
}

// exponent tries all monic polynomials at all residues.
func (k *carlitz) exponent() impl.Poly {
	a, all := impl.Poly{1}, residues(k.p, k.m)
	for !k.leadsAllToZero(a, all) {
		a = nextMonic(k.p, a)
	}
	return a
}

// generator tries all residues.
func (k *carlitz) generator() (impl.Poly, bool) {
	for _, x := range residues(k.p, k.m) {
		if degreeOf(k.annihilator(x)) == degreeOf(k.m) {
			return x, true
		}
	}
	return impl.Poly{}, false
}

// torsionNumber counts, and fails the test if the torsion is no space.
func (k *carlitz) torsionNumber(t *testing.T, a impl.Poly) int64 {
	t.Helper()
	count := 0
	for _, x := range residues(k.p, k.m) {
		if k.act(a, x) == (impl.Poly{}) {
			count++
		}
	}
	number := int64(0)
	for ; count%int(k.p) == 0; count /= int(k.p) {
		number++
	}
	if count != 1 {
		t.Fatalf("%d: the torsion of %v modulo %v is no space", k.p, a, k.m)
	}
	return number
}

// basis returns the powers of T that are residues.
func (k *carlitz) basis() []impl.Poly {
	var list []impl.Poly
	for i := range degreeOf(k.m) {
		list = append(list, monomial(i))
	}
	return list
}

// binomialsBy adds up the words of T and tau in the powers of T + tau. A letter T behind so many
// letters tau comes to their front as that power of T.
func binomialsBy(p int64, a impl.Poly) []plain {
	list := make([]plain, degreeOf(a)+1)
	for n := range list {
		for word := range 1 << n {
			exponent, taus, q := 0, 0, 1
			for letter := range n {
				if word>>letter&1 == 1 {
					taus++
					q *= int(p)
				} else {
					exponent += q
				}
			}
			list[taus] = list[taus].plus(p, int64(a[n]), plain{1}.shifted(p, 1, exponent))
		}
	}
	return list
}

// composedBy returns the list for d and then c, or ErrLimit.
func composedBy(t *testing.T, p int64, c, d []impl.Poly) ([]impl.Poly, int64) {
	t.Helper()
	list := make([]plain, len(c)+len(d))
	q := 1
	for i, x := range c {
		for j, y := range d {
			if x == (impl.Poly{}) || y == (impl.Poly{}) {
				continue
			}
			if degreeOf(x)+degreeOf(y)*q > impl.MaxDegree {
				return nil, impl.ErrLimit
			}
			term := plainOf(x).times(p, plainOf(powerOfPrime(p, y, q)))
			list[i+j] = list[i+j].plus(p, 1, term)
		}
		q *= int(p)
	}
	return polysOf(t, list), impl.ErrNone
}

// powerOfPrime returns y to the power q, a power of p, for which numbers stay as they are.
func powerOfPrime(p int64, y impl.Poly, q int) impl.Poly {
	if degreeOf(y) == 0 {
		return y
	}
	return plainPower(p, y, q)
}

// polysOf leaves out the zeros at the end.
func polysOf(t *testing.T, list []plain) []impl.Poly {
	t.Helper()
	var polys []impl.Poly
	for _, a := range list {
		polys = append(polys, a.poly(t))
	}
	return withoutZeros(polys)
}

// withoutZeros leaves out the zeros at the end.
func withoutZeros(list []impl.Poly) []impl.Poly {
	for len(list) > 0 && list[len(list)-1] == (impl.Poly{}) {
		list = list[:len(list)-1]
	}
	return list
}

// valueOfList returns the sum of c(i) x^(p^i) for a residue x.
func valueOfList(p int64, list []impl.Poly, x, m impl.Poly) impl.Poly {
	var value impl.Poly
	for _, c := range list {
		value = plusTimes(p, value, 1, productBy(p, restBy(p, c, m), x, m))
		x = powerBy(p, x, p, m)
	}
	return value
}

// deepBy returns the deep rest of a residue x, and fails the test if there is a rest on the way.
func deepBy(t *testing.T, p int64, x, m impl.Poly) impl.Poly {
	t.Helper()
	k := carlitzOf(p, product(t, p, m, m))
	value := k.act(plusTimes(p, m, byte(p-1), impl.Poly{1}), x)
	quotient, rest := plainOf(value).divided(p, plainOf(m))
	if len(rest) > 0 {
		t.Fatalf("%d: what is made of %v for %v is not divisible", p, x, m)
	}
	return restBy(p, quotient.poly(t), m)
}

// actions returns a list of so many polynomials of degrees up to most.
func (s *sampler) actions(p int64, count, most int) []impl.Poly {
	list := make([]impl.Poly, count)
	for i := range list {
		list[i] = s.upTo(p, most)
	}
	return list
}

// expectList is for lists that may be empty.
func expectList(t *testing.T, name string, got []any, want []impl.Poly) {
	t.Helper()
	if list, ok := got[0].([]impl.Poly); ok && len(list) == 0 && len(want) == 0 {
		expectCode(t, name, got, impl.ErrNone)
		return
	}
	expect(t, name, got, want)
}
