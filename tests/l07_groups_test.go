package tests

import (
	"slices"
	"testing"

	"loop.example/g01245/impl"
)

// expectComposed holds a composition, both ways, against one with another choice of r, s and t.
func expectComposed(t *testing.T, s *sampler, k curve, f, g impl.Form) {
	t.Helper()
	want := k.composed(t, s, f, g)
	expect(t, "ComposeForms", results(impl.ComposeForms(k.p, k.d, f, g)), want)
	expect(t, "ComposeForms", results(impl.ComposeForms(k.p, k.d, g, f)), want)
}

func TestComposeForms(t *testing.T) {
	s := &sampler{state: 220}
	for _, p := range oddPrimes {
		for _, k := range curves(t, s, p) {
			list := k.reducedForms()
			for range 20 {
				expectComposed(t, s, k, s.formOf(list), s.formOf(list))
			}
			for _, f := range list {
				expect(t, "ComposeForms", results(impl.ComposeForms(p, k.d, f, unitForm())), f)
				expect(t, "ComposeForms", results(impl.ComposeForms(p, k.d, unitForm(), f)), f)
				expect(t, "ComposeForms", results(impl.ComposeForms(p, k.d, f, k.inverse(t, f))), unitForm())
				expectComposed(t, s, k, f, f)
			}
		}
	}
}

// Forms have a divisor of their A in common, with the same B modulo it, with the opposite one, or
// with 0; nothing else makes the common divisor of the three polynomials.
func TestFormsWithCommonDivisors(t *testing.T) {
	s := &sampler{state: 221}
	for _, p := range oddPrimes {
		kinds := map[[2]int]int{}
		for range 6 {
			for _, leading := range []byte{1, byte(p - 1)} {
				k := s.discriminant(t, p, 5, leading)
				list := k.reducedForms()
				for range 60 {
					f, g := s.formOf(list), s.formOf(list)
					kind := [2]int{commonDegree(p, f.A, g.A), 0}
					if kind[0] == 0 {
						continue
					}
					common, _, _ := factorsBySteps(p, plainOf(f.A), plainOf(g.A))
					kind[1] = commonDegree(p, common.poly(t), plusTimes(p, f.B, 1, g.B))
					kinds[kind]++
					expectComposed(t, s, k, f, g)
				}
			}
		}
		for _, kind := range [][2]int{{1, 0}, {1, 1}, {2, 0}, {2, 1}, {2, 2}} {
			if kinds[kind] == 0 {
				t.Errorf("%d: the degrees of the common divisors are %v", p, kinds)
			}
		}
	}
}

// commonDegree returns the degree of the greatest common divisor of a and b, which are not both 0.
func commonDegree(p int64, a, b impl.Poly) int {
	d, _, _ := factorsBySteps(p, plainOf(a), plainOf(b))
	return len(d) - 1
}

// All pairs of reduced forms are composed where there are few.
func TestComposeAllForms(t *testing.T) {
	s := &sampler{state: 222}
	for _, p := range oddPrimes {
		for _, k := range curves(t, s, p) {
			list := k.reducedForms()
			if len(list) > 36 {
				continue
			}
			for i, f := range list {
				for _, g := range list[i:] {
					expectComposed(t, s, k, f, g)
				}
			}
		}
	}
}

// pointsByHand returns the forms of 0 to 5 times the point (2, 3), for T^3 + 1 and 7: these points are
// none, (2, 3), (0, 1), (6, 0), (0, 6) and (2, 4).
func pointsByHand() []impl.Form {
	return []impl.Form{
		unitForm(),
		{A: poly("15"), B: poly("3")},
		{A: poly("10"), B: poly("1")},
		{A: poly("11")},
		{A: poly("10"), B: poly("6")},
		{A: poly("15"), B: poly("4")},
	}
}

func TestComposeByHand(t *testing.T) {
	cube, list := poly("1001"), pointsByHand()
	for i, f := range list {
		for j, g := range list {
			expect(t, "ComposeForms", results(impl.ComposeForms(7, cube, f, g)), list[(i+j)%6])
		}
		for k := int64(-13); k <= 13; k++ {
			want := list[((int64(i)*k)%6+6)%6]
			expect(t, "PowerOfForm", results(impl.PowerOfForm(7, cube, f, k)), want)
		}
		expect(t, "InverseForm", results(impl.InverseForm(7, cube, f)), list[(6-i)%6])
		expect(t, "OrderOfForm", results(impl.OrderOfForm(7, cube, f)), []int64{1, 6, 3, 2, 3, 6}[i])
	}
}

func TestInverseForm(t *testing.T) {
	s := &sampler{state: 223}
	for _, p := range oddPrimes {
		for _, k := range curves(t, s, p) {
			for _, f := range append(s.someForms(t, k, impl.MaxForm), k.reducedForms()...) {
				want := k.inverse(t, f)
				expect(t, "InverseForm", results(impl.InverseForm(p, k.d, f)), want)
				expect(t, "InverseForm", results(impl.InverseForm(p, k.d, want)), f)
				if plusTimes(p, f.B, 1, want.B) != (impl.Poly{}) || f.A != want.A {
					t.Errorf("%d, %v: the inverse of %v is %v", p, k.d, f, want)
				}
			}
			expect(t, "InverseForm", results(impl.InverseForm(p, k.d, unitForm())), unitForm())
		}
	}
}

// manyPowers are numbers of powers of both signs.
func manyPowers(class int64) []int64 {
	list := []int64{0, 1, 2, 3, 4, 5, 7, 8, 31, 32, 33, class - 1, class, class + 1, 2 * class, 1 << 32, 1<<32 + 1}
	list = append(list, impl.MaxNumber, impl.MaxNumber-1, 999999999989, 1<<39-1)
	for _, k := range slices.Clone(list) {
		list = append(list, -k)
	}
	return list
}

// expectPowers holds powers against compositions one after the other.
func expectPowers(t *testing.T, k curve, f impl.Form, powers []impl.Form, numbers []int64) {
	t.Helper()
	order := int64(len(powers))
	for _, n := range numbers {
		want := powers[(n%order+order)%order]
		expect(t, "PowerOfForm", results(impl.PowerOfForm(k.p, k.d, f, n)), want)
	}
}

func TestPowerOfForm(t *testing.T) {
	s := &sampler{state: 224}
	for _, p := range oddPrimes {
		for _, k := range curves(t, s, p) {
			list := k.reducedForms()
			numbers := manyPowers(int64(len(list)))
			for range 4 {
				numbers = append(numbers, s.below(impl.MaxNumber/1000)*1000-s.below(1000))
			}
			for _, f := range []impl.Form{unitForm(), s.formOf(list), s.formOf(list), list[len(list)-1]} {
				expectPowers(t, k, f, k.powersOf(t, s, f), numbers)
			}
		}
	}
}

// expectOrder holds the order against all powers, and against the class number.
func expectOrder(t *testing.T, s *sampler, k curve, f impl.Form, class int) int64 {
	t.Helper()
	order := len(k.powersOf(t, s, f))
	expect(t, "OrderOfForm", results(impl.OrderOfForm(k.p, k.d, f)), int64(order))
	if class%order != 0 {
		t.Errorf("%d, %v: the order %d of %v does not divide %d", k.p, k.d, order, f, class)
	}
	return int64(order)
}

func TestOrderOfForm(t *testing.T) {
	s := &sampler{state: 225}
	for _, p := range oddPrimes {
		for _, k := range curves(t, s, p) {
			list := k.reducedForms()
			for range 5 {
				expectOrder(t, s, k, s.formOf(list), len(list))
			}
			expect(t, "OrderOfForm", results(impl.OrderOfForm(p, k.d, unitForm())), int64(1))
		}
	}
}

// The orders of all forms are found one by one, without the program where there are few.
func TestGroupOrders(t *testing.T) {
	s := &sampler{state: 226}
	for _, p := range oddPrimes {
		for _, k := range curves(t, s, p) {
			list := must[[]impl.Form](t)(impl.ReducedForms(p, k.d))
			var want []int64
			for _, f := range list {
				if len(list) <= 40 {
					want = append(want, expectOrder(t, s, k, f, len(list)))
				} else {
					want = append(want, must[int64](t)(impl.OrderOfForm(p, k.d, f)))
				}
			}
			expect(t, "GroupOrders", results(impl.GroupOrders(p, k.d)), want)
		}
	}
}

// The forms of the orders 1 and 2 are those of the divisors of D, of which there are as many as
// subsets of its factors, and two that make D together are the same.
func TestFormsOfOrderTwo(t *testing.T) {
	s := &sampler{state: 227}
	for _, p := range oddPrimes {
		for _, k := range curves(t, s, p) {
			want := 1 << (len(factorsByTrying(t, p, k.d)) - 1)
			got := 0
			for _, order := range must[[]int64](t)(impl.GroupOrders(p, k.d)) {
				if order <= 2 {
					got++
				}
			}
			if got != want {
				t.Errorf("%d, %v: %d forms have the orders 1 and 2, not %d", p, k.d, got, want)
			}
		}
	}
}

// In a group of prime order all forms but the unit have this order.
func TestGroupsOfPrimeOrder(t *testing.T) {
	s := &sampler{state: 228}
	found := 0
	for _, p := range oddPrimes {
		for range 60 {
			k := s.discriminant(t, p, 3, byte(1+s.below(p-1)))
			orders := must[[]int64](t)(impl.GroupOrders(p, k.d))
			n := int64(len(orders))
			if !slices.Contains([]int64{2, 3, 5, 7, 11, 13}, n) {
				continue
			}
			found++
			want := slices.Repeat([]int64{n}, int(n))
			want[0] = 1
			if !slices.Equal(orders, want) {
				t.Errorf("%d, %v: the orders are %v", p, k.d, orders)
			}
		}
	}
	if found == 0 {
		t.Error("there are no groups of prime order")
	}
}

func TestGroupOrdersByHand(t *testing.T) {
	expect(t, "GroupOrders", results(impl.GroupOrders(3, poly3(3))), []int64{1, 2, 2, 2})
	expect(t, "GroupOrders", results(impl.GroupOrders(3, poly("1022"))), []int64{1})
	expect(t, "GroupOrders", results(impl.GroupOrders(7, poly("3"+"0"))), []int64{1})
	// Its five factors leave only the orders 1 and 2.
	want := slices.Repeat([]int64{2}, 16)
	want[0] = 1
	expect(t, "GroupOrders", results(impl.GroupOrders(5, poly("100040"))), want)
	// There are three forms of the order 2 (with B as 0), two of the order 3, and six of the order 6.
	expect(t, "GroupOrders", results(impl.GroupOrders(7, poly("1001"))), []int64{1, 3, 3, 2, 2, 6, 6, 2, 6, 6, 6, 6})
}
