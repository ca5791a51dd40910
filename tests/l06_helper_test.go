package tests

import (
	"slices"
	"testing"

	"loop.example/g01245/impl"
)

// What follows finds the results of chapter 6 by the definitions: words of the three terms of the
// action of T, values at all residues, twists by powers, and a trial of all polynomials for the one
// that the Frobenius polynomial has to have.

// rankTwo is a Drinfeld module with its field.
type rankTwo struct {
	*tower
	g, d impl.Poly
}

// told is the argument of the program.
func (k rankTwo) told() impl.Drinfeld {
	return impl.Drinfeld{Prime: k.p, Mod: k.m, G: k.g, D: k.d}
}

func (k rankTwo) of(n impl.Drinfeld) rankTwo {
	return rankTwo{k.tower, n.G, n.D}
}

// t is the rest of T.
func (k rankTwo) t() impl.Poly {
	return restBy(k.p, monomial(1), k.m)
}

// turned returns what T makes of a residue.
func (k rankTwo) turned(x impl.Poly) impl.Poly {
	value := k.times(k.t(), x)
	value = k.plus(value, k.times(k.g, k.raised(x, 1)))
	return k.plus(value, k.times(k.d, k.raised(x, 2)))
}

// act returns what a makes of a residue.
func (k rankTwo) act(a, x impl.Poly) impl.Poly {
	var value impl.Poly
	for i := range degreeOf(a) + 1 {
		value = plusTimes(k.p, value, a[i], x)
		x = k.turned(x)
	}
	return value
}

// words adds up the words of n terms of the action of T, c being the one to which they belong. A
// letter behind so many taus comes to their front as that Frobenius.
func (k rankTwo) words(list []impl.Poly, c impl.Poly, n int) {
	var add func(c impl.Poly, taus, left int)
	add = func(c impl.Poly, taus, left int) {
		if left == 0 {
			list[taus] = k.plus(list[taus], c)
			return
		}
		for more, letter := range []impl.Poly{k.t(), k.g, k.d} {
			add(k.times(c, k.raised(letter, taus)), taus+more, left-1)
		}
	}
	add(c, 0, n)
}

// action returns the coefficients of the action of a.
func (k rankTwo) action(a impl.Poly) []impl.Poly {
	if a == (impl.Poly{}) {
		return nil
	}
	list := make([]impl.Poly, 2*degreeOf(a)+1)
	for n := range degreeOf(a) + 1 {
		k.words(list, impl.Poly{a[n]}, n)
	}
	return list
}

// multiplied returns the product of two sums of c(i) tau^i.
func (k rankTwo) multiplied(f, g []impl.Poly) []impl.Poly {
	list := make([]impl.Poly, len(f)+len(g))
	for i, c := range f {
		for j, d := range g {
			list[i+j] = k.plus(list[i+j], k.times(c, k.raised(d, i)))
		}
	}
	return withoutZeros(list)
}

// leadsTo reports whether u is an isogeny to another module.
func (k rankTwo) leadsTo(n rankTwo, u []impl.Poly) bool {
	if len(withoutZeros(u)) == 0 {
		return false
	}
	left := k.multiplied(u, []impl.Poly{k.t(), k.g, k.d})
	return slices.Equal(left, k.multiplied([]impl.Poly{n.t(), n.g, n.d}, u))
}

// power takes powers of other residues than 0, also to numbers less than 0.
func (k *tower) power(x impl.Poly, n int64) impl.Poly {
	if n < 0 {
		return k.power(k.inverse(x), -n)
	}
	power := impl.Poly{1}
	for range n {
		power = k.times(power, x)
	}
	return power
}

// twistedBy takes the powers of the document.
func (k rankTwo) twistedBy(c impl.Poly) rankTwo {
	g := k.times(k.power(c, 1-k.p), k.g)
	return rankTwo{k.tower, g, k.times(k.power(c, 1-k.p*k.p), k.d)}
}

// isTwistOf tries all residues.
func (k rankTwo) isTwistOf(n rankTwo) bool {
	for _, c := range k.all[1:] {
		if n.twistedBy(c) == k {
			return true
		}
	}
	return false
}

func (k rankTwo) invariant() impl.Poly {
	return k.times(k.power(k.g, k.p+1), k.inverse(k.d))
}

// norm multiplies the residue with its images.
func (k *tower) norm(t *testing.T, x impl.Poly) int64 {
	t.Helper()
	all := impl.Poly{1}
	for i := range k.degree() {
		all = k.times(all, k.raised(x, i))
	}
	if degreeOf(all) > 0 {
		t.Fatalf("%d, %v: the norm of %v is %v", k.p, k.m, x, all)
	}
	return int64(all[0])
}

// constantTerm returns b of the Frobenius polynomial.
func (k rankTwo) constantTerm(t *testing.T) impl.Poly {
	t.Helper()
	c := inverseOf(k.p, k.norm(t, k.d))
	if k.degree()%2 == 1 {
		c = (k.p - c) % k.p
	}
	return plusTimes(k.p, impl.Poly{}, byte(c), k.m)
}

// isFrobenius reports whether F F, less the action of a times F, and that of b are 0 together.
func (k rankTwo) isFrobenius(a, b []impl.Poly) bool {
	d := k.degree()
	sum := make([]impl.Poly, 4*d+2)
	sum[2*d] = impl.Poly{1}
	for i, c := range a {
		sum[i+d] = k.plus(sum[i+d], k.opposite(c))
	}
	for i, c := range b {
		sum[i] = k.plus(sum[i], c)
	}
	return len(withoutZeros(sum)) == 0
}

// trace tries all polynomials of degrees up to half of that of the field.
func (k rankTwo) trace(t *testing.T) impl.Poly {
	t.Helper()
	b := k.action(k.constantTerm(t))
	for a := (impl.Poly{}); 2*degreeOf(a) <= k.degree(); a = next(k.p, a) {
		if k.isFrobenius(k.action(a), b) {
			return a
		}
	}
	t.Fatalf("%d, %v: there is no Frobenius polynomial for %v and %v", k.p, k.m, k.g, k.d)
	return impl.Poly{}
}

// square has what T makes of the powers of T as its rows.
func (k rankTwo) square() square {
	s := square{p: k.p, n: k.degree()}
	for i := range s.n {
		x := k.turned(monomial(i))
		s.s[i] = impl.Row(x[:impl.MaxRows])
	}
	return s
}

// allRankTwo returns all modules for a field: their G ascend, and within their D.
func allRankTwo(k *tower) []rankTwo {
	var list []rankTwo
	for _, g := range k.all {
		for _, d := range k.all[1:] {
			list = append(list, rankTwo{k, g, d})
		}
	}
	return list
}

// rankTwo returns a module.
func (s *sampler) rankTwo(k *tower) rankTwo {
	return rankTwo{k, s.residue(k), s.unit(k)}
}

// someRankTwo returns modules for a field: samples, those with G as 0, and those with 1 or the
// greatest residue as G or D.
func (s *sampler) someRankTwo(k *tower, count int) []rankTwo {
	great := k.all[len(k.all)-1]
	list := []rankTwo{
		{k, impl.Poly{}, impl.Poly{1}}, {k, impl.Poly{1}, impl.Poly{1}}, {k, impl.Poly{}, great},
		{k, great, impl.Poly{1}}, {k, great, great}, {k, impl.Poly{}, s.unit(k)},
	}
	for range count {
		list = append(list, s.rankTwo(k))
	}
	return list
}

// fewResidues returns the fields for which all modules are listed: all with at most 16 residues.
func fewResidues(p int64) []*tower {
	var list []*tower
	for _, m := range moduli(p, 4, 16) {
		if isPrimePoly(p, m) {
			list = append(list, towerOf(p, m))
		}
	}
	return list
}
