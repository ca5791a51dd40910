package tests

import (
	"math/big"
	"strconv"
	"testing"

	"loop.example/g01245/impl"
)

// What follows finds sums of powers without the polynomials that are summed over, and symbols by a
// search for squares.

// mostSummed are the greatest degrees of which there are at most MaxListed monic polynomials.
var mostSummed = map[int64]int64{2: 8, 3: 5, 5: 3, 7: 3}

// codeOfPowers returns the code of a sum over the monic polynomials of the degree d, of powers k of
// polynomials of the degree d + n.
func codeOfPowers(p, d, n, k int64) int64 {
	switch {
	case d < 0 || d > mostSummed[p] || k < 0 || k > impl.MaxExponent:
		return impl.ErrRange
	case (d+n)*k > impl.MaxDegree:
		return impl.ErrLimit
	}
	return impl.ErrNone
}

// digitsOf adds up the digits of the text of k.
func digitsOf(p, k int64) int64 {
	all := int64(0)
	for _, c := range strconv.FormatInt(k, int(p)) {
		all += int64(c - '0')
	}
	return all
}

// sums are sums of powers of polynomials of any degrees for a prime, multiplied out: of each
// coefficient, only the sum of its own powers is left.
type sums struct {
	p      int64
	less   map[[2]int64]plain
	monics map[[2]int64]plain
}

func sumsOf(p int64) *sums {
	return &sums{p, map[[2]int64]plain{}, map[[2]int64]plain{}}
}

// choices returns how often j of n things can be chosen, modulo p.
func (k *sums) choices(n, j int64) int64 {
	count := new(big.Int).Binomial(n, j)
	return count.Mod(count, big.NewInt(k.p)).Int64()
}

// ofNumbers adds up the powers j of all numbers modulo p.
func (k *sums) ofNumbers(j int64) int64 {
	all := int64(0)
	for c := range k.p {
		power := int64(1)
		for range j {
			power = power * c % k.p
		}
		all += power
	}
	return all % k.p
}

// lesser adds up the powers n of all polynomials of degrees less than d.
func (k *sums) lesser(d, n int64) plain {
	if d == 0 && n == 0 {
		return plain{1}
	}
	if d == 0 {
		return plain{}
	}
	key := [2]int64{d, n}
	if all, known := k.less[key]; known {
		return all
	}
	all := plain{}
	for j := range n + 1 {
		if c := k.choices(n, j) * k.ofNumbers(j) % k.p; c != 0 {
			all = all.plus(k.p, 1, k.lesser(d-1, n-j).shifted(k.p, c, int((d-1)*j)))
		}
	}
	k.less[key] = all
	return all
}

// powers adds up the powers n of all monic polynomials of the degree d.
func (k *sums) powers(d, n int64) plain {
	key := [2]int64{d, n}
	if all, known := k.monics[key]; known {
		return all
	}
	all := plain{}
	for j := range n + 1 {
		if c := k.choices(n, j); c != 0 {
			all = all.plus(k.p, 1, k.lesser(d, n-j).shifted(k.p, c, int(d*j)))
		}
	}
	k.monics[key] = all
	return all
}

// below adds up the sums of the powers n of all degrees less than d.
func (k *sums) below(d, n int64) plain {
	all := plain{}
	for e := range d {
		all = all.plus(k.p, 1, k.powers(e, n))
	}
	return all
}

// shifted adds up the powers n of a m + 1, for all monic a of the degree d.
func (k *sums) shifted(m impl.Poly, d, n int64) plain {
	all, power := plain{}, plain{1}
	for j := range n + 1 {
		part := k.powers(d, j).times(k.p, power).times(k.p, plain{k.choices(n, j)})
		all = all.plus(k.p, 1, part)
		power = power.times(k.p, plainOf(m))
	}
	return all
}

// characters knows the squares other than 0 modulo irreducible polynomials, for a prime greater
// than 2.
type characters struct {
	p       int64
	squares map[impl.Poly]map[impl.Poly]bool
	factors map[impl.Poly][]impl.Factor
}

func charactersOf(p int64) *characters {
	return &characters{p, map[impl.Poly]map[impl.Poly]bool{}, map[impl.Poly][]impl.Factor{}}
}

// prime returns the quadratic symbol of a and an irreducible polynomial.
func (k *characters) prime(a, prime impl.Poly) int64 {
	if k.squares[prime] == nil {
		k.squares[prime] = map[impl.Poly]bool{}
		for _, b := range residues(k.p, prime)[1:] {
			k.squares[prime][productBy(k.p, b, b, prime)] = true
		}
	}
	rest := restBy(k.p, a, prime)
	switch {
	case rest == impl.Poly{}:
		return 0
	case k.squares[prime][rest]:
		return 1
	}
	return -1
}

// symbol returns the quadratic symbol of a and a monic m.
func (k *characters) symbol(t *testing.T, a, m impl.Poly) int64 {
	t.Helper()
	if k.factors[m] == nil {
		k.factors[m] = factorsByTrying(t, k.p, m)
	}
	symbol := int64(1)
	for _, f := range k.factors[m] {
		for range f.Power {
			symbol *= k.prime(a, f.Prime)
		}
	}
	return symbol
}

// polynomial adds up the symbols of m and all monic polynomials of each degree.
func (k *characters) polynomial(t *testing.T, m impl.Poly) []int64 {
	t.Helper()
	list := make([]int64, degreeOf(m))
	for d := range list {
		for a := monomial(d); degreeOf(a) == d; a = nextMonic(k.p, a) {
			list[d] += k.symbol(t, a, m)
		}
	}
	return list
}

// symbolModuli returns moduli of all degrees: irreducible ones, squarefree products, and such as are
// divided by a square; and all of small norms.
func symbolModuli(t *testing.T, s *sampler, p int64) []impl.Poly {
	t.Helper()
	return append(mixedModuli(t, s, p), moduli(p, 3, normLimits[p])...)
}

// quadraticByPower makes a quadratic symbol of a symbol as the document tells.
func quadraticByPower(t *testing.T, p, symbol int64) int64 {
	t.Helper()
	power := int64(1)
	for range (p - 1) / 2 {
		power = power * symbol % p
	}
	switch power {
	case 0, 1:
		return power
	case p - 1:
		return -1
	}
	t.Fatalf("%d: %d to the power %d is %d", p, symbol, (p-1)/2, power)
	return 0
}

// nested returns a nested sum that fits.
func (k *sums) nested(t *testing.T, d, n, l int64) impl.Poly {
	t.Helper()
	return k.powers(d, n).times(k.p, k.below(d, l)).poly(t)
}
