package tests

import (
	"testing"

	"loop.example/g01245/impl"
)

// checkRoot squares R and the digits: with so many of them, S = T^n R and the digits below it has a
// square that begins like T^(2 n) D, down to the power T^(g + n), where the next digit would come in.
// There is only one monic S for that.
func checkRoot(t *testing.T, p int64, d impl.Poly, n int) {
	t.Helper()
	g := degreeOf(d) / 2
	root, code := impl.RootPart(p, d)
	if code != impl.ErrNone || degreeOf(root) != g || root[g] != 1 || !impl.IsPoly(p, root) {
		t.Fatalf("RootPart(%d, %v) = %v, %d", p, d, root, code)
	}
	digits, code := impl.DigitsOfRoot(p, d, int64(n))
	if code != impl.ErrNone || len(digits) != n {
		t.Fatalf("DigitsOfRoot(%d, %v, %d) = %v, %d", p, d, n, digits, code)
	}
	series := plainOf(root).shifted(p, 1, n)
	for i, digit := range digits {
		if digit < 0 || digit >= p {
			t.Fatalf("DigitsOfRoot(%d, %v, %d) = %v", p, d, n, digits)
		}
		series[n-1-i] = digit
	}
	left := plainOf(d).shifted(p, 1, 2*n).plus(p, -1, series.times(p, series))
	if len(left) > g+n {
		t.Errorf("%d: of %v, the root %v with the digits %v leaves %v", p, d, root, digits, left)
	}
	if n == 0 {
		expect(t, "IsSquarePoly", results(impl.IsSquarePoly(p, d)), len(left) == 0)
	}
}

func TestRoots(t *testing.T) {
	s := &sampler{state: 520}
	for _, p := range oddPrimes {
		for _, d := range s.squareCases(t, p) {
			for _, n := range []int{0, 1, 2, int(s.below(impl.MaxDigits)), impl.MaxDigits} {
				checkRoot(t, p, d, n)
			}
		}
		for g := range 3 {
			for d := monomial(2 * g); degreeOf(d) == 2*g && normOf(p, d) <= 625; d = nextMonic(p, d) {
				for _, n := range []int{0, 1, impl.MaxDigits} {
					checkRoot(t, p, d, n)
				}
			}
		}
	}
}

// Squares have their roots, and digits that are all 0.
func TestRootsOfSquares(t *testing.T) {
	s := &sampler{state: 521}
	for _, p := range oddPrimes {
		for g := range 32 {
			for _, r := range []impl.Poly{monomial(g), s.monic(p, g), s.monic(p, g), s.monic(p, g)} {
				d := product(t, p, r, r)
				expect(t, "RootPart", results(impl.RootPart(p, d)), r)
				expect(t, "IsSquarePoly", results(impl.IsSquarePoly(p, d)), true)
				for _, n := range []int64{0, 1, 2, impl.MaxDigits} {
					expect(t, "DigitsOfRoot", results(impl.DigitsOfRoot(p, d, n)), make([]int64, n))
				}
				for i := range g {
					// Less than T^g changes no R, but the digits behind it.
					other := plusTimes(p, d, byte(1+s.below(p-1)), monomial(i))
					expect(t, "RootPart", results(impl.RootPart(p, other)), r)
					expect(t, "IsSquarePoly", results(impl.IsSquarePoly(p, other)), false)
					digits := must[[]int64](t)(impl.DigitsOfRoot(p, other, impl.MaxDigits))
					for k, digit := range digits[:g-i] {
						if (digit != 0) != (k == g-i-1) {
							t.Errorf("%d: %v has the digits %v", p, other, digits)
						}
					}
				}
			}
		}
	}
}

// There are as many squares as monic roots, and no others are told to be some.
func TestAllSquares(t *testing.T) {
	for _, p := range oddPrimes {
		for g := range 3 {
			if g == 2 && p == 7 {
				continue
			}
			squares := map[impl.Poly]bool{}
			for r := monomial(g); degreeOf(r) == g; r = nextMonic(p, r) {
				squares[product(t, p, r, r)] = true
			}
			for d := monomial(2 * g); degreeOf(d) == 2*g; d = nextMonic(p, d) {
				expect(t, "IsSquarePoly", results(impl.IsSquarePoly(p, d)), squares[d])
			}
		}
	}
}

func TestRootsByHand(t *testing.T) {
	for _, c := range []struct {
		p        int64
		d, root  string
		digits   []int64
		isSquare bool
	}{
		{3, "1", "1", []int64{0, 0, 0}, true},
		{5, "1", "1", []int64{}, true},
		{3, "121", "11", []int64{0, 0}, true},
		{3, "100", "10", []int64{0, 0}, true},
		// The root of 1 + x is 1 + x / 2 - x x / 8 + x x x / 16 - ..
		{3, "101", "10", []int64{2, 0, 1, 0, 1}, false},
		{5, "101", "10", []int64{3, 0, 3, 0, 1, 0, 0}, false},
		{7, "101", "10", []int64{4, 0, 6, 0, 4}, false},
		{7, "10010", "100", []int64{4, 0, 0, 6, 0, 0, 4}, false},
		{7, "12", "", nil, false},
		{7, "123", "11", []int64{1, 6}, false},
		{5, "141", "12", []int64{1, 3}, false},
	} {
		d := poly(c.d)
		if c.root == "" {
			expectCode(t, "RootPart", results(impl.RootPart(c.p, d)), impl.ErrRange)
			continue
		}
		expect(t, "RootPart", results(impl.RootPart(c.p, d)), poly(c.root))
		expect(t, "DigitsOfRoot", results(impl.DigitsOfRoot(c.p, d, int64(len(c.digits)))), c.digits)
		expect(t, "IsSquarePoly", results(impl.IsSquarePoly(c.p, d)), c.isSquare)
	}
}
