package tests

import (
	"slices"
	"testing"

	"loop.example/g01245/impl"
)

// allLists returns all lists of so many residues.
func allLists(k *tower, count int) [][]impl.Poly {
	lists := [][]impl.Poly{nil}
	for range count {
		var longer [][]impl.Poly
		for _, list := range lists {
			for _, x := range k.all {
				longer = append(longer, append(list[:len(list):len(list)], x))
			}
		}
		lists = longer
	}
	return lists
}

// checkIsogeny holds the program against the products of both sides, and returns what they tell.
func checkIsogeny(t *testing.T, m, n rankTwo, u []impl.Poly) bool {
	t.Helper()
	want := m.leadsTo(n, u)
	expect(t, "IsIsogeny", results(impl.IsIsogeny(m.told(), n.told(), u)), want)
	return want
}

// All lists are tried, for all pairs of modules.
func TestAllSmallIsogenies(t *testing.T) {
	lengths := map[int64]map[int]int{2: {1: 6, 2: 3}, 3: {1: 3}, 5: {1: 2}, 7: {1: 1}}
	for _, p := range primes {
		for _, k := range fewResidues(p) {
			found := 0
			for count := 1; count <= lengths[p][k.degree()]; count++ {
				for _, u := range allLists(k, count) {
					for _, m := range allRankTwo(k) {
						for _, n := range allRankTwo(k) {
							if checkIsogeny(t, m, n, u) {
								found++
							}
						}
					}
				}
			}
			if lengths[p][k.degree()] > 0 && found == 0 {
				t.Errorf("%d, %v: there are no isogenies", p, k.m)
			}
		}
	}
}

// expectIsogeny is for an isogeny from m to n. What is longer than told is left out, and what is
// shorter may have zeros behind. Another module at either end, or another coefficient, is tried too.
func expectIsogeny(t *testing.T, s *sampler, m, n rankTwo, u []impl.Poly) {
	t.Helper()
	u = withoutZeros(u)
	if len(u) > 6 {
		return
	}
	if !checkIsogeny(t, m, n, u) {
		t.Errorf("%d, %v: %v is an isogeny from %v to %v", m.p, m.m, u, m.told(), n.told())
	}
	for len(u) < 6 {
		u = append(u[:len(u):len(u)], impl.Poly{})
		checkIsogeny(t, m, n, u)
	}
	other := slices.Clone(u)
	other[s.below(6)] = s.residue(m.tower)
	checkIsogeny(t, m, n, other)
	checkIsogeny(t, m, rankTwo{n.tower, s.residue(n.tower), n.d}, u)
	checkIsogeny(t, m, rankTwo{n.tower, n.g, s.unit(n.tower)}, u)
	checkIsogeny(t, s.rankTwo(m.tower), n, u)
}

// Residues lead to twists, and actions and powers of F to the module itself.
func TestKnownIsogenies(t *testing.T) {
	s := &sampler{state: 160}
	for _, p := range primes {
		for _, k := range towers(s, p) {
			for _, n := range s.someRankTwo(k, 4) {
				c := s.unit(k)
				twist := n.twistedBy(c)
				expectIsogeny(t, s, n, twist, []impl.Poly{c})
				expectIsogeny(t, s, n, n, []impl.Poly{{byte(p - 1)}})
				power := []impl.Poly{{1}}
				for range 6 {
					power = append(make([]impl.Poly, k.degree()), power...)
					expectIsogeny(t, s, n, n, power)
					expectIsogeny(t, s, n, twist, n.multiplied([]impl.Poly{c}, power))
				}
				power = append(make([]impl.Poly, k.degree()), impl.Poly{1})
				for _, a := range []impl.Poly{monomial(1), monomial(2), s.poly(p, 1), s.poly(p, 2)} {
					expectIsogeny(t, s, n, n, n.action(a))
					expectIsogeny(t, s, n, twist, n.multiplied([]impl.Poly{c}, n.action(a)))
					expectIsogeny(t, s, n, n, n.multiplied(n.action(a), power))
				}
			}
		}
	}
}

// What T takes into itself is the kernel of an isogeny, which leads to a module of its own.
func TestIsogeniesOfKernels(t *testing.T) {
	s := &sampler{state: 161}
	found := 0
	for _, p := range primes {
		for _, k := range towers(s, p) {
			for _, n := range s.someRankTwo(k, 6) {
				order := n.square().characteristic(t)
				for _, f := range factorsByTrying(t, p, order) {
					var kernel []impl.Poly
					for _, v := range must[[]impl.Row](t)(impl.KernelOfPoly(p, n.square().size(), n.square().s, f.Prime)) {
						x := impl.Poly{}
						copy(x[:], v[:])
						kernel = append(kernel, x)
					}
					u := must[impl.Skew](t)(impl.LeastSkew(p, k.m, kernel))
					turn := must[impl.Skew](t)(impl.MultiplySkews(p, k.m, u, impl.Skew{n.t(), n.g, n.d}))
					q, r, code := impl.DivideRight(p, k.m, turn, u)
					if code != impl.ErrNone || r != (impl.Skew{}) || q[0] != n.t() {
						t.Fatalf("%v: %v divided by %v is %v, %v, %d", n.told(), turn, u, q, r, code)
					}
					to := rankTwo{k, q[1], q[2]}
					expectIsogeny(t, s, n, to, u[:6])
					if !to.isAlike(n) {
						found++
					}
				}
			}
		}
	}
	if found == 0 {
		t.Error("all of the modules are alike")
	}
}

// isAlike reports whether two modules have the same invariant.
func (k rankTwo) isAlike(n rankTwo) bool {
	return k.invariant() == n.invariant()
}

// For the degree 1, tau commutes with all residues.
func TestIsogeniesOfDegree1(t *testing.T) {
	s := &sampler{state: 162}
	for _, p := range primes {
		for c := range byte(p) {
			k := towerOf(p, impl.Poly{c, 1})
			for count := 1; count <= 6; count++ {
				n, u := s.rankTwo(k), make([]impl.Poly, count)
				for i := range u {
					u[i] = s.residue(k)
				}
				expect(t, "IsIsogeny", results(impl.IsIsogeny(n.told(), n.told(), u)), len(withoutZeros(u)) > 0)
			}
		}
	}
}

func TestZerosAreNoIsogeny(t *testing.T) {
	s := &sampler{state: 163}
	for _, p := range primes {
		for _, k := range towers(s, p) {
			m, n := s.rankTwo(k).told(), s.rankTwo(k).told()
			for count := 1; count <= 6; count++ {
				for _, to := range []impl.Drinfeld{m, n} {
					expect(t, "IsIsogeny", results(impl.IsIsogeny(m, to, make([]impl.Poly, count))), false)
				}
			}
		}
	}
}

func TestIsogeniesByHand(t *testing.T) {
	m := impl.Drinfeld{Prime: 2, Mod: poly("111"), G: poly("1"), D: poly("1")}
	expect(t, "IsIsogeny", results(impl.IsIsogeny(m, m, polys("0", "0", "1"))), true)
	// tau leads from t to t t, which is another residue.
	expect(t, "IsIsogeny", results(impl.IsIsogeny(m, m, polys("0", "1"))), false)
	twist := m
	twist.G = poly("11")
	expect(t, "TwistOf", results(impl.TwistOf(m, poly("10"))), twist)
	expect(t, "IsIsogeny", results(impl.IsIsogeny(m, twist, polys("10"))), true)
	expect(t, "IsIsogeny", results(impl.IsIsogeny(m, twist, polys("11"))), false)
	expect(t, "IsIsogeny", results(impl.IsIsogeny(twist, m, polys("11"))), true)
	expect(t, "IsIsogeny", results(impl.IsIsogeny(twist, m, polys("10"))), false)
	expect(t, "IsIsogeny", results(impl.IsIsogeny(m, twist, polys("0", "0", "10", "0", "10", "0"))), true)
}
