package tests

import (
	"slices"
	"testing"

	"loop.example/g01245/impl"
)

func TestNormOf(t *testing.T) {
	s := &sampler{state: 150}
	for _, p := range primes {
		for _, k := range towers(s, p) {
			list := k.all
			if len(list) > 125 {
				list = append(list[:p+1:p+1], s.residue(k), s.residue(k), s.residue(k), list[len(list)-1])
			}
			n := s.rankTwo(k).told()
			for _, x := range list {
				expect(t, "NormOf", results(impl.NormOf(n, x)), k.norm(t, x))
			}
			// The norm of a number is its power d, and that of 0 is 0.
			expect(t, "NormOf", results(impl.NormOf(n, impl.Poly{})), int64(0))
			expect(t, "NormOf", results(impl.NormOf(n, impl.Poly{1})), int64(1))
			want := []int64{p - 1, 1}[(k.degree()+1)%2]
			expect(t, "NormOf", results(impl.NormOf(n, impl.Poly{byte(p - 1)})), want)
		}
	}
}

func TestNormsByHand(t *testing.T) {
	// T T is -1, and the image of T is -T: 2 T + 1, times 1 - 2 T, is 1 + 4.
	m := impl.Drinfeld{Prime: 3, Mod: poly("101"), D: poly("1")}
	expect(t, "NormOf", results(impl.NormOf(m, poly("21"))), int64(2))
	expect(t, "NormOf", results(impl.NormOf(m, poly("10"))), int64(1))
	// The norm of T is the last coefficient of the modulus, with another sign for odd degrees.
	m = impl.Drinfeld{Prime: 7, Mod: poly("1002"), D: poly("1")}
	expect(t, "NormOf", results(impl.NormOf(m, poly("10"))), int64(5))
	m = impl.Drinfeld{Prime: 7, Mod: poly("13"), D: poly("1")}
	for x := range byte(7) {
		expect(t, "NormOf", results(impl.NormOf(m, impl.Poly{x})), int64(x))
	}
}

func TestFrobeniusOf(t *testing.T) {
	s := &sampler{state: 151}
	for _, p := range primes {
		for _, k := range towers(s, p) {
			for _, n := range s.someRankTwo(k, 8) {
				checkFrobenius(t, n)
			}
		}
	}
}

func checkFrobenius(t *testing.T, n rankTwo) {
	t.Helper()
	a, b := n.trace(t), n.constantTerm(t)
	expect(t, "FrobeniusOf", results(impl.FrobeniusOf(n.told())), a, b)
	expect(t, "IsSupersingular", results(impl.IsSupersingular(n.told())), a == impl.Poly{})
	checkOrder(t, n, a, b)
}

// checkOrder holds the order against the characteristic polynomial of what T makes of residues,
// which is found without the program, and by the program's chapter 5.
func checkOrder(t *testing.T, n rankTwo, a, b impl.Poly) {
	t.Helper()
	square := n.square()
	order := square.characteristic(t)
	expect(t, "OrderPolynomial", results(impl.OrderPolynomial(n.told())), order)
	expect(t, "CharacteristicOf", results(impl.CharacteristicOf(n.p, square.size(), square.s)), order)
	sum := plusTimes(n.p, plusTimes(n.p, impl.Poly{1}, byte(n.p-1), a), 1, b)
	if plusTimes(n.p, impl.Poly{}, sum[n.degree()], order) != sum {
		t.Errorf("%v: %v is not 1 - a + b, divided by its leading coefficient", n.told(), order)
	}
}

func TestOrdersAtAllResidues(t *testing.T) {
	s := &sampler{state: 152}
	for _, p := range primes {
		for _, k := range towers(s, p) {
			list := k.all
			if len(list) > 125 {
				list = []impl.Poly{{1}, monomial(1), monomial(2), monomial(k.degree() - 1), s.residue(k)}
			}
			for _, n := range s.someRankTwo(k, 3) {
				order := must[impl.Poly](t)(impl.OrderPolynomial(n.told()))
				if degreeOf(order) != k.degree() || order[k.degree()] != 1 {
					t.Errorf("%v has the order %v", n.told(), order)
				}
				for _, x := range list {
					if n.act(order, x) != (impl.Poly{}) {
						t.Errorf("%v: the order %v does not lead %v to 0", n.told(), order, x)
					}
				}
			}
		}
	}
}

// For an odd degree, modules without G are supersingular. The action of the modulus tells of all.
func TestSupersingularModules(t *testing.T) {
	s := &sampler{state: 153}
	counts := map[bool]int{}
	for _, p := range primes {
		for _, k := range towers(s, p) {
			for _, n := range s.someRankTwo(k, 20) {
				is := must[bool](t)(impl.IsSupersingular(n.told()))
				if k.degree()%2 == 1 && n.g == (impl.Poly{}) && !is {
					t.Errorf("%v is supersingular", n.told())
				}
				// There is no other term than the last one.
				first := slices.IndexFunc(n.action(k.m), func(c impl.Poly) bool { return c != impl.Poly{} })
				if is != (first == 2*k.degree()) {
					t.Errorf("%v: IsSupersingular = %v", n.told(), is)
				}
				counts[is]++
			}
		}
	}
	if counts[true] < 50 || counts[false] < 50 {
		t.Errorf("there are %v modules", counts)
	}
}

func TestFrobeniusByHand(t *testing.T) {
	// With T as Mod, F is tau, and the action of b is that of T, less t, divided by -D.
	m := impl.Drinfeld{Prime: 3, Mod: poly("10"), G: poly("1"), D: poly("1")}
	expect(t, "FrobeniusOf", results(impl.FrobeniusOf(m)), poly("2"), poly("20"))
	expect(t, "OrderPolynomial", results(impl.OrderPolynomial(m)), poly("11"))
	expect(t, "IsSupersingular", results(impl.IsSupersingular(m)), false)
	m = impl.Drinfeld{Prime: 7, Mod: poly("15"), G: poly("3"), D: poly("2")}
	expect(t, "FrobeniusOf", results(impl.FrobeniusOf(m)), poly("2"), poly("31"))
	expect(t, "OrderPolynomial", results(impl.OrderPolynomial(m)), poly("10"))
	// Here the action of T T + T + 1 is tau, taken four times.
	m = impl.Drinfeld{Prime: 2, Mod: poly("111"), G: poly("1"), D: poly("1")}
	expect(t, "FrobeniusOf", results(impl.FrobeniusOf(m)), poly("0"), poly("111"))
	expect(t, "OrderPolynomial", results(impl.OrderPolynomial(m)), poly("110"))
	expect(t, "IsSupersingular", results(impl.IsSupersingular(m)), true)
	// Without G, it is 0, 0, T + (T + 1) + 1, 0, 1.
	m.G = poly("0")
	expect(t, "DrinfeldAction", results(impl.DrinfeldAction(m, poly("111"))), polys("0", "0", "1", "0", "1"))
	expect(t, "FrobeniusOf", results(impl.FrobeniusOf(m)), poly("1"), poly("111"))
}

func TestAllDrinfeld(t *testing.T) {
	for _, p := range primes {
		for _, k := range fewResidues(p) {
			var want []impl.Drinfeld
			for _, n := range allRankTwo(k) {
				want = append(want, n.told())
			}
			expect(t, "AllDrinfeld", results(impl.AllDrinfeld(p, k.m)), want)
		}
	}
	line := impl.Drinfeld{Prime: 2, Mod: poly("11"), D: poly("1")}
	other := line
	other.G = poly("1")
	expect(t, "AllDrinfeld", results(impl.AllDrinfeld(2, poly("11"))), []impl.Drinfeld{line, other})
}

// All modules are counted by what FrobeniusOf tells of them, and by trials of all polynomials.
func TestCountByTrace(t *testing.T) {
	for _, p := range primes {
		for _, k := range fewResidues(p) {
			var want, tried []int64
			places := map[impl.Poly]int{}
			for a := (impl.Poly{}); 2*degreeOf(a) <= k.degree(); a = next(p, a) {
				places[a] = len(want)
				want, tried = append(want, 0), append(tried, 0)
			}
			for _, n := range allRankTwo(k) {
				a, _, code := impl.FrobeniusOf(n.told())
				place, known := places[a]
				if code != impl.ErrNone || !known {
					t.Fatalf("FrobeniusOf(%v) = %v, .., %d", n.told(), a, code)
				}
				want[place]++
				tried[places[n.trace(t)]]++
			}
			expect(t, "CountByTrace", results(impl.CountByTrace(p, k.m)), want)
			expect(t, "CountByTrace", results(impl.CountByTrace(p, k.m)), tried)
		}
	}
}

// For the degree 1, a is -G, divided by D, so that all numbers come equally often.
func TestCountsByHand(t *testing.T) {
	for _, p := range primes {
		for c := range byte(p) {
			want := slices.Repeat([]int64{p - 1}, int(p))
			expect(t, "CountByTrace", results(impl.CountByTrace(p, impl.Poly{c, 1})), want)
		}
	}
}

// There are moduli with exactly 16 residues, and none of them is left out.
func TestModuliWithFewResidues(t *testing.T) {
	counts := map[int64][]int{2: {2, 1, 2, 3}, 3: {3, 3}, 5: {5}, 7: {7}}
	for _, p := range primes {
		want := counts[p]
		got := make([]int, len(want))
		for _, k := range fewResidues(p) {
			got[k.degree()-1]++
			size := len(k.all)
			if list := must[[]impl.Drinfeld](t)(impl.AllDrinfeld(p, k.m)); len(list) != size*(size-1) {
				t.Errorf("%d: there are %d modules for %v", p, len(list), k.m)
			}
		}
		if !slices.Equal(got, want) {
			t.Errorf("%d: there are %v moduli with few residues", p, got)
		}
	}
}
