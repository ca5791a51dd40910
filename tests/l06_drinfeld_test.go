package tests

import (
	"slices"
	"testing"

	"loop.example/g01245/impl"
)

func TestIsDrinfeld(t *testing.T) {
	s := &sampler{state: 140}
	for _, p := range primes {
		for _, k := range towers(s, p) {
			for _, n := range s.someRankTwo(k, 10) {
				if !impl.IsDrinfeld(n.told()) {
					t.Errorf("%v is a module", n.told())
				}
			}
			for _, wrong := range noDrinfelds(s.rankTwo(k)) {
				if impl.IsDrinfeld(wrong) {
					t.Errorf("%v is no module", wrong)
				}
			}
		}
	}
}

// actedOn returns polynomials of all degrees whose actions are told: all terms, one alone, samples.
func actedOn(s *sampler, p int64) []impl.Poly {
	list := []impl.Poly{{}, {1}, {byte(p - 1)}}
	for n := 1; n <= 5; n++ {
		list = append(list, monomial(n), full(p, n), s.poly(p, n))
	}
	return list
}

func TestDrinfeldAction(t *testing.T) {
	s := &sampler{state: 141}
	for _, p := range primes {
		for _, k := range towers(s, p) {
			for _, n := range s.someRankTwo(k, 3) {
				for _, a := range actedOn(s, p) {
					got := results(impl.DrinfeldAction(n.told(), a))
					expectList(t, "DrinfeldAction", got, n.action(a))
				}
			}
		}
	}
}

// Zeros in front, or in between, are told; the last coefficient is not 0.
func TestDrinfeldActionsByHand(t *testing.T) {
	square := impl.Drinfeld{Prime: 2, Mod: poly("111"), G: poly("1"), D: poly("1")}
	expect(t, "DrinfeldAction", results(impl.DrinfeldAction(square, poly("10"))), polys("10", "1", "1"))
	expect(t, "DrinfeldAction", results(impl.DrinfeldAction(square, poly("100"))), polys("11", "1", "1", "0", "1"))
	expect(t, "DrinfeldAction", results(impl.DrinfeldAction(square, poly("111"))), polys("0", "0", "0", "0", "1"))
	expect(t, "DrinfeldAction", results(impl.DrinfeldAction(square, poly("1"))), polys("1"))
	expectList(t, "DrinfeldAction", results(impl.DrinfeldAction(square, impl.Poly{})), nil)
	// With T + 2 as Mod, t is 3, and tau leaves all residues as they are.
	line := impl.Drinfeld{Prime: 5, Mod: poly("12"), D: poly("2")}
	expect(t, "DrinfeldAction", results(impl.DrinfeldAction(line, poly("10"))), polys("3", "0", "2"))
	expect(t, "DrinfeldAction", results(impl.DrinfeldAction(line, poly("103"))), polys("2", "0", "2", "0", "4"))
}

// checkAtResidues holds the action of a, told by its coefficients and by its values, against what
// T makes of all residues, or of some, one after the other.
func checkAtResidues(t *testing.T, n rankTwo, a impl.Poly, list []impl.Poly) {
	t.Helper()
	action, code := impl.DrinfeldAction(n.told(), a)
	if degreeOf(a) <= 5 && (code != impl.ErrNone || len(action) != max(2*degreeOf(a)+1, 0)) {
		t.Errorf("DrinfeldAction(%v, %v) = %v, %d", n.told(), a, action, code)
	}
	for _, x := range list {
		want := n.act(a, x)
		if degreeOf(a) <= 5 && valueOfList(n.p, action, x, n.m) != want {
			t.Errorf("%v: the action %v of %v does not lead %v to %v", n.told(), action, a, x, want)
		}
		expect(t, "DrinfeldValue", results(impl.DrinfeldValue(n.told(), a, x)), want)
	}
}

func TestDrinfeldActionsAtAllResidues(t *testing.T) {
	s := &sampler{state: 142}
	for _, p := range primes {
		for _, k := range fewResidues(p) {
			for _, n := range s.someRankTwo(k, 3) {
				for _, a := range append(actedOn(s, p), s.poly(p, 6), s.poly(p, 63)) {
					checkAtResidues(t, n, a, k.all)
				}
			}
		}
	}
}

// The rest of x counts, and a may have any degree.
func TestDrinfeldValue(t *testing.T) {
	s := &sampler{state: 143}
	for _, p := range primes {
		for _, k := range towers(s, p) {
			for _, n := range s.someRankTwo(k, 3) {
				few := []impl.Poly{{}, {1}, s.residue(k), s.residue(k), k.all[len(k.all)-1]}
				for _, a := range append(actedOn(s, p), s.poly(p, 6), k.m, monomial(63), full(p, 63)) {
					checkAtResidues(t, n, a, few)
					x := s.residue(k)
					for _, y := range []impl.Poly{s.beyond(t, p, x, k.m), plusTimes(p, x, 1, k.m)} {
						expect(t, "DrinfeldValue", results(impl.DrinfeldValue(n.told(), a, y)), n.act(a, x))
					}
				}
				expect(t, "DrinfeldValue", results(impl.DrinfeldValue(n.told(), monomial(1), k.m)), impl.Poly{})
			}
		}
	}
}

func TestDrinfeldValuesByHand(t *testing.T) {
	square := impl.Drinfeld{Prime: 2, Mod: poly("111"), G: poly("1"), D: poly("1")}
	// T T, T T and T T T T are T + 1, T + 1 and T.
	expect(t, "DrinfeldValue", results(impl.DrinfeldValue(square, poly("10"), poly("10"))), poly("10"))
	expect(t, "DrinfeldValue", results(impl.DrinfeldValue(square, poly("11"), poly("10"))), poly("0"))
	expect(t, "DrinfeldValue", results(impl.DrinfeldValue(square, poly("10"), poly("101"))), poly("10"))
	line := impl.Drinfeld{Prime: 5, Mod: poly("12"), G: poly("1"), D: poly("2")}
	// T takes x to 3 x + x + 2 x.
	expect(t, "DrinfeldValue", results(impl.DrinfeldValue(line, poly("10"), poly("3"))), poly("3"))
	expect(t, "DrinfeldValue", results(impl.DrinfeldValue(line, poly("112"), poly("10"))), poly("2"))
}

func TestInvariantOf(t *testing.T) {
	s := &sampler{state: 144}
	for _, p := range primes {
		for _, k := range append(towers(s, p), fewResidues(p)...) {
			for _, n := range s.someRankTwo(k, 20) {
				expect(t, "InvariantOf", results(impl.InvariantOf(n.told())), n.invariant())
			}
		}
	}
}

func TestTwistOf(t *testing.T) {
	s := &sampler{state: 145}
	for _, p := range primes {
		for _, k := range towers(s, p) {
			for _, n := range s.someRankTwo(k, 3) {
				expect(t, "TwistOf", results(impl.TwistOf(n.told(), impl.Poly{1})), n.told())
				expect(t, "TwistOf", results(impl.TwistOf(n.told(), impl.Poly{byte(p - 1)})), n.told())
				for _, c := range []impl.Poly{monomial(k.degree() - 1), s.unit(k), s.unit(k), s.unit(k)} {
					expect(t, "TwistOf", results(impl.TwistOf(n.told(), c)), n.twistedBy(c).told())
				}
			}
		}
		for _, k := range fewResidues(p) {
			n := s.rankTwo(k)
			for _, c := range k.all[1:] {
				expect(t, "TwistOf", results(impl.TwistOf(n.told(), c)), n.twistedBy(c).told())
			}
		}
	}
}

func TestInvariantsAndTwistsByHand(t *testing.T) {
	// T T is -1, and the power 4 of T + 1 is -1.
	m := impl.Drinfeld{Prime: 3, Mod: poly("101"), G: poly("11"), D: poly("10")}
	expect(t, "InvariantOf", results(impl.InvariantOf(m)), poly("10"))
	want := m
	want.G = poly("22")
	expect(t, "TwistOf", results(impl.TwistOf(m, poly("10"))), want)
	// T + 1 to the power -2 is T, and to the power -8 it is 1.
	want.G = poly("12")
	expect(t, "TwistOf", results(impl.TwistOf(m, poly("11"))), want)
	m.G = impl.Poly{}
	expect(t, "InvariantOf", results(impl.InvariantOf(m)), impl.Poly{})
}

// All pairs of modules with few residues are tried.
func TestAreIsomorphic(t *testing.T) {
	for _, p := range primes {
		for _, k := range fewResidues(p) {
			list := allRankTwo(k)
			if len(list) > 100 {
				continue
			}
			for _, m := range list {
				twists := map[impl.Drinfeld]bool{}
				for _, c := range k.all[1:] {
					twists[m.twistedBy(c).told()] = true
				}
				for _, n := range list {
					expect(t, "AreIsomorphic", results(impl.AreIsomorphic(m.told(), n.told())), twists[n.told()])
				}
			}
		}
	}
}

// A residue that is a power p - 1 has the norm 1. Modules with a G other than 0 have the same
// invariant if G has a factor, and D its power p + 1, but no other factor leads from G to G.
func TestSameInvariantsWithoutTwist(t *testing.T) {
	s := &sampler{state: 146}
	others := 0
	for _, p := range primes {
		for _, k := range towers(s, p) {
			for range 6 {
				n, u := rankTwo{k, s.unit(k), s.unit(k)}, s.unit(k)
				same := rankTwo{k, k.times(u, n.g), k.times(k.power(u, p+1), n.d)}
				expect(t, "InvariantOf", results(impl.InvariantOf(same.told())), n.invariant())
				isTwist := k.norm(t, u) == 1
				expect(t, "AreIsomorphic", results(impl.AreIsomorphic(n.told(), same.told())), isTwist)
				expect(t, "AreIsomorphic", results(impl.AreIsomorphic(same.told(), n.told())), isTwist)
				if !isTwist {
					others++
				}
				twist := n.twistedBy(u)
				expect(t, "AreIsomorphic", results(impl.AreIsomorphic(n.told(), twist.told())), true)
				expect(t, "AreIsomorphic", results(impl.AreIsomorphic(twist.told(), n.told())), true)
				expect(t, "AreIsomorphic", results(impl.AreIsomorphic(n.told(), n.told())), true)
				// One coefficient alone does not make a twist.
				twist.g = n.g
				want := twist.isTwistOf(n)
				if len(k.all) <= 125 {
					expect(t, "AreIsomorphic", results(impl.AreIsomorphic(n.told(), twist.told())), want)
				}
			}
		}
	}
	if others == 0 {
		t.Error("all of the modules with the same invariant are twists")
	}
}

// All modules without G have the invariant 0: those are twists whose quotient of D is a power
// p p - 1.
func TestTwistsWithoutG(t *testing.T) {
	s := &sampler{state: 147}
	for _, p := range primes {
		for _, k := range towers(s, p) {
			powers := map[impl.Poly]bool{}
			for _, c := range k.all[1:] {
				ratio := k.times(k.raised(c, 2), k.inverse(c))
				powers[ratio] = true
			}
			for range 8 {
				m, n := rankTwo{k, impl.Poly{}, s.unit(k)}, rankTwo{k, impl.Poly{}, s.unit(k)}
				want := powers[k.times(m.d, k.inverse(n.d))]
				expect(t, "AreIsomorphic", results(impl.AreIsomorphic(m.told(), n.told())), want)
				n.g = s.unit(k)
				expect(t, "AreIsomorphic", results(impl.AreIsomorphic(m.told(), n.told())), false)
				expect(t, "AreIsomorphic", results(impl.AreIsomorphic(n.told(), m.told())), false)
			}
		}
	}
}

func TestArgumentsOfChapter6Stay(t *testing.T) {
	s := &sampler{state: 148}
	for _, p := range primes {
		for _, k := range towers(s, p) {
			n := s.rankTwo(k).told()
			// The spare capacity behind the list holds what has to stay as well.
			u := []impl.Poly{s.unit(k), s.residue(k), {}, {1}, {byte(p)}, {255}, {1}}
			before := slices.Clone(u)
			for count := range 5 {
				impl.IsIsogeny(n, n, u[:count])
			}
			if !slices.Equal(u, before) {
				t.Errorf("%v became %v", before, u)
			}
		}
	}
}

func TestListsOfChapter6AreNew(t *testing.T) {
	s := &sampler{state: 149}
	for _, p := range primes {
		for _, k := range fewResidues(p) {
			n, a := s.rankTwo(k).told(), s.poly(p, 3)
			action := must[[]impl.Poly](t)(impl.DrinfeldAction(n, a))
			want := slices.Clone(action)
			clear(action[:cap(action)])
			expect(t, "DrinfeldAction", results(impl.DrinfeldAction(n, a)), want)
			all := must[[]impl.Drinfeld](t)(impl.AllDrinfeld(p, k.m))
			before := slices.Clone(all)
			clear(all[:cap(all)])
			expect(t, "AllDrinfeld", results(impl.AllDrinfeld(p, k.m)), before)
			counts := must[[]int64](t)(impl.CountByTrace(p, k.m))
			same := slices.Clone(counts)
			clear(counts[:cap(counts)])
			expect(t, "CountByTrace", results(impl.CountByTrace(p, k.m)), same)
		}
	}
}
