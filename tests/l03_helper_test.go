package tests

import (
	"testing"

	"loop.example/g01245/impl"
)

// What follows finds the results of chapter 3 by the definitions, with products of residues of
// the tests' own, and without any division of the program.

// tower is a field with all its residues in order, and what the Frobenius makes of each.
type tower struct {
	p         int64
	m         impl.Poly
	all       []impl.Poly
	frobenius map[impl.Poly]impl.Poly
}

// towerOf takes powers by as many products.
func towerOf(p int64, m impl.Poly) *tower {
	k := &tower{p, m, residues(p, m), map[impl.Poly]impl.Poly{}}
	for _, x := range k.all {
		power := impl.Poly{1}
		for range p {
			power = productBy(p, power, x, m)
		}
		k.frobenius[x] = power
	}
	return k
}

// towers returns fields of all degrees in 1..4: some with a sample, and one with T itself.
func towers(s *sampler, p int64) []*tower {
	list := []*tower{towerOf(p, monomial(1))}
	for d := 1; d <= 4; d++ {
		list = append(list, towerOf(p, s.irreducible(p, d)))
	}
	return list
}

func (k *tower) degree() int {
	return degreeOf(k.m)
}

func (k *tower) plus(x, y impl.Poly) impl.Poly {
	for i := range x {
		x[i] = (x[i] + y[i]) % byte(k.p)
	}
	return x
}

func (k *tower) times(x, y impl.Poly) impl.Poly {
	return productBy(k.p, x, y, k.m)
}

func (k *tower) opposite(x impl.Poly) impl.Poly {
	return k.times(impl.Poly{byte(k.p - 1)}, x)
}

// raised returns the Frobenius of x, taken i times.
func (k *tower) raised(x impl.Poly, i int) impl.Poly {
	for range i {
		x = k.frobenius[x]
	}
	return x
}

// inverse relies on this: the power of x by the number of residues, less 1, is 1.
func (k *tower) inverse(x impl.Poly) impl.Poly {
	inverse := impl.Poly{1}
	for n := len(k.all) - 2; n > 0; n /= 2 {
		if n%2 == 1 {
			inverse = k.times(inverse, x)
		}
		x = k.times(x, x)
	}
	return inverse
}

// longSkew has room for all products.
type longSkew [2*impl.MaxSkew + 1]impl.Poly

func long(f impl.Skew) longSkew {
	var g longSkew
	copy(g[:], f[:])
	return g
}

func (f longSkew) degree() int {
	n := len(f) - 1
	for n >= 0 && f[n] == (impl.Poly{}) {
		n--
	}
	return n
}

// product goes by the definition, term by term.
func (k *tower) product(f, g impl.Skew) longSkew {
	var product longSkew
	for i := range f {
		for j := range g {
			term := k.times(f[i], k.raised(g[j], i))
			product[i+j] = k.plus(product[i+j], term)
		}
	}
	return product
}

func (k *tower) sum(f, g longSkew) longSkew {
	for i := range f {
		f[i] = k.plus(f[i], g[i])
	}
	return f
}

func (k *tower) value(f impl.Skew, x impl.Poly) impl.Poly {
	var value impl.Poly
	for i := range f {
		value = k.plus(value, k.times(f[i], k.raised(x, i)))
	}
	return value
}

// rest divides from the right, g being other than 0.
func (k *tower) rest(f, g impl.Skew) impl.Skew {
	low := long(g).degree()
	for n := long(f).degree(); n >= low; n = long(f).degree() {
		var term impl.Skew
		term[n-low] = k.opposite(k.times(f[n], k.inverse(k.raised(g[low], n-low))))
		product := k.sum(long(f), k.product(term, g))
		copy(f[:], product[:impl.MaxSkew+1])
	}
	return f
}

// divides reports whether g divides f from the right.
func (k *tower) divides(g, f impl.Skew) bool {
	return k.rest(f, g) == (impl.Skew{})
}

// divisorDegree returns the degree of the right divisor of f and g.
func (k *tower) divisorDegree(f, g impl.Skew) int {
	for g != (impl.Skew{}) {
		f, g = g, k.rest(f, g)
	}
	return long(f).degree()
}

// monicSkews calls visit for all monic skew polynomials of the degree n.
func (k *tower) monicSkews(n int, visit func(impl.Skew)) {
	var fill func(f impl.Skew, i int)
	fill = func(f impl.Skew, i int) {
		if i == n {
			f[n] = impl.Poly{1}
			visit(f)
			return
		}
		for _, x := range k.all {
			f[i] = x
			fill(f, i+1)
		}
	}
	fill(impl.Skew{}, 0)
}

// span returns all sums of residues of a list with numbers as factors.
func (k *tower) span(list []impl.Poly) map[impl.Poly]bool {
	span := map[impl.Poly]bool{{}: true}
	for _, x := range list {
		if span[x] {
			continue
		}
		wider := map[impl.Poly]bool{}
		for y := range span {
			for range k.p {
				wider[y] = true
				y = k.plus(y, x)
			}
		}
		span = wider
	}
	return span
}

// dimension is that of a space with so many residues.
func (k *tower) dimension(size int) int {
	n := 0
	for ; size > 1; size /= int(k.p) {
		n++
	}
	return n
}

// one returns the skew polynomial 1.
func one() impl.Skew {
	return impl.Skew{{1}}
}

// tau returns c tau^i.
func tau(c impl.Poly, i int) impl.Skew {
	var f impl.Skew
	f[i] = c
	return f
}

// unitSkew returns tau^d - 1, which leads all residues to 0.
func (k *tower) unitSkew() impl.Skew {
	f := tau(impl.Poly{1}, k.degree())
	f[0] = impl.Poly{byte(k.p - 1)}
	return f
}

func (s *sampler) residue(k *tower) impl.Poly {
	return k.all[s.below(int64(len(k.all)))]
}

// unit returns a residue other than 0.
func (s *sampler) unit(k *tower) impl.Poly {
	return k.all[1+s.below(int64(len(k.all)-1))]
}

// skew returns a skew polynomial of exactly the degree n, 0 for -1.
func (s *sampler) skew(k *tower, n int) impl.Skew {
	var f impl.Skew
	for i := range n {
		f[i] = s.residue(k)
	}
	if n >= 0 {
		f[n] = s.unit(k)
	}
	return f
}

// short fails the test if f does not fit.
func (f longSkew) short(t *testing.T) impl.Skew {
	t.Helper()
	if f.degree() > impl.MaxSkew {
		t.Fatalf("the test's own skew polynomial has the degree %d", f.degree())
	}
	return impl.Skew(f[:impl.MaxSkew+1])
}
