package tests

import (
	"testing"

	"loop.example/g01245/impl"
)

// noSizes are beyond the range of sizes, and some are in it when they are cut to fewer bits.
var noSizes = []int64{
	0, impl.MaxRows + 1, -1, 8, 64, 257, 1 << 32, 1<<32 + 1, 1<<32 + 6, -1 << 32, 1<<63 - 1, -1 << 63,
}

// squareCall is a function of chapter 5 with everything that is in each of its arguments.
type squareCall struct {
	name string
	run  func(p, n int64, s impl.Square, a impl.Poly, v impl.Row) []any
}

func callsWithSquares() []squareCall {
	type poly = impl.Poly
	type row = impl.Row
	type matrix = impl.Square
	return []squareCall{
		{"ApplySquare", func(p, n int64, s matrix, a poly, v row) []any { return results(impl.ApplySquare(p, n, s, a, v)) }},
		{"CharacteristicOf", func(p, n int64, s matrix, a poly, v row) []any { return results(impl.CharacteristicOf(p, n, s)) }},
		{"LeastOf", func(p, n int64, s matrix, a poly, v row) []any { return results(impl.LeastOf(p, n, s)) }},
		{"OrderOfVector", func(p, n int64, s matrix, a poly, v row) []any { return results(impl.OrderOfVector(p, n, s, v)) }},
		{"InvariantFactors", func(p, n int64, s matrix, a poly, v row) []any { return results(impl.InvariantFactors(p, n, s)) }},
		{"IsCyclicModule", func(p, n int64, s matrix, a poly, v row) []any { return results(impl.IsCyclicModule(p, n, s)) }},
		{"ModuleGenerator", func(p, n int64, s matrix, a poly, v row) []any { return results(impl.ModuleGenerator(p, n, s)) }},
		{"KernelOfPoly", func(p, n int64, s matrix, a poly, v row) []any { return results(impl.KernelOfPoly(p, n, s, a)) }},
		{"AreSimilar", func(p, n int64, s matrix, a poly, v row) []any { return results(impl.AreSimilar(p, n, s, s)) }},
		{"AreSimilar", func(p, n int64, s matrix, a poly, v row) []any { return results(impl.AreSimilar(p, n, s, matrix{})) }},
		{"AreSimilar", func(p, n int64, s matrix, a poly, v row) []any { return results(impl.AreSimilar(p, n, matrix{}, s)) }},
	}
}

// callsOfChapter5 take polynomials without a matrix.
func callsOfChapter5() []call {
	return []call{
		{"CompanionOf", 1, func(p int64, a []impl.Poly) []any { return results(impl.CompanionOf(p, a[0])) }},
	}
}

func skewCallsOfChapter5() []skewCall {
	return []skewCall{
		{"SquareOfSkew", 1, 0, func(p int64, m impl.Poly, f []impl.Skew, x []impl.Poly) []any {
			return results(impl.SquareOfSkew(p, m, f[0]))
		}},
	}
}

// noRows returns what is no vector for p and n.
func noRows(p int64, n int) []impl.Row {
	var list []impl.Row
	for i := range impl.MaxRows {
		var v impl.Row
		for _, c := range []byte{byte(p), byte(p + 1), 128, 255} {
			v[i] = c
			list = append(list, v)
		}
		if i >= n {
			v[i] = 1
			list = append(list, v, impl.Row{1, 1, 1, 1, 1, 1})
		}
	}
	return list
}

// noSquares returns what is no matrix for p and n.
func noSquares(p int64, n int) []impl.Square {
	var list []impl.Square
	for i := range impl.MaxRows {
		var s impl.Square
		for _, v := range noRows(p, n) {
			s[i] = v
			list = append(list, s)
		}
		for j := range n {
			if i >= n {
				s[i] = impl.Row{}
				s[i][j] = 1
				list = append(list, s)
			}
		}
	}
	return list
}

func TestWrongPrimesWithSquares(t *testing.T) {
	for _, c := range callsWithSquares() {
		for _, p := range notPrimes {
			for n := int64(0); n <= impl.MaxRows+1; n++ {
				expectCode(t, c.name, c.run(p, n, impl.Square{}, impl.Poly{}, impl.Row{}), impl.ErrInvalid)
				one := impl.Square{{1}}
				expectCode(t, c.name, c.run(p, n, one, impl.Poly{1}, impl.Row{1}), impl.ErrInvalid)
			}
		}
	}
}

func TestWrongSizes(t *testing.T) {
	full := impl.Row{1, 1, 1, 1, 1, 1}
	for _, c := range callsWithSquares() {
		for _, p := range primes {
			for _, n := range noSizes {
				expectCode(t, c.name, c.run(p, n, impl.Square{}, impl.Poly{}, impl.Row{}), impl.ErrInvalid)
				one := impl.Square{{1}}
				expectCode(t, c.name, c.run(p, n, one, impl.Poly{1}, impl.Row{1}), impl.ErrInvalid)
				all := impl.Square{full, full, full, full, full, full}
				expectCode(t, c.name, c.run(p, n, all, monomial(63), full), impl.ErrInvalid)
			}
		}
	}
}

// Without the wrong entry, there would be no generator: this comes later.
func TestWrongSquares(t *testing.T) {
	for _, p := range primes {
		for n := 1; n <= impl.MaxRows; n++ {
			for _, wrong := range noSquares(p, n) {
				for _, c := range callsWithSquares() {
					expectCode(t, c.name, c.run(p, int64(n), wrong, impl.Poly{}, impl.Row{}), impl.ErrInvalid)
				}
			}
		}
	}
}

func TestWrongVectors(t *testing.T) {
	for _, p := range primes {
		for n := 1; n <= impl.MaxRows; n++ {
			size := int64(n)
			for _, s := range []impl.Square{{}, {{1}}} {
				for _, v := range noRows(p, n) {
					for _, a := range []impl.Poly{{}, {1}, {0, 1}, monomial(63)} {
						expectCode(t, "ApplySquare", results(impl.ApplySquare(p, size, s, a, v)), impl.ErrInvalid)
					}
					expectCode(t, "OrderOfVector", results(impl.OrderOfVector(p, size, s, v)), impl.ErrInvalid)
				}
			}
		}
	}
}

func TestWrongPolysWithSquares(t *testing.T) {
	for _, p := range primes {
		for n := int64(1); n <= impl.MaxRows; n++ {
			for at := range impl.MaxDegree + 1 {
				for _, c := range []byte{byte(p), byte(p + 1), 255} {
					for _, v := range []impl.Row{{}, {1}} {
						var a impl.Poly
						a[at] = c
						s := impl.Square{{1}}
						expectCode(t, "ApplySquare", results(impl.ApplySquare(p, n, s, a, v)), impl.ErrInvalid)
						expectCode(t, "KernelOfPoly", results(impl.KernelOfPoly(p, n, s, a)), impl.ErrInvalid)
					}
				}
			}
		}
	}
}

func TestWhatHasNoCompanion(t *testing.T) {
	s := &sampler{state: 120}
	for _, p := range primes {
		list := []impl.Poly{{}, monomial(impl.MaxRows + 1), monomial(8), monomial(12), monomial(63)}
		for c := byte(1); c < byte(p); c++ {
			list = append(list, impl.Poly{c})
			for n := 1; n <= impl.MaxRows && c > 1; n++ {
				a := s.monic(p, n)
				a[n] = c
				list = append(list, a)
			}
		}
		for n := 1; n <= impl.MaxRows; n++ {
			for _, at := range []int{0, n - 1, n, n + 1, 63} {
				a := s.monic(p, n)
				a[at] += byte(p)
				list = append(list, a)
			}
		}
		for n := impl.MaxRows + 1; n <= impl.MaxDegree; n++ {
			list = append(list, s.monic(p, n), full(p, n))
		}
		for _, a := range list {
			expectCode(t, "CompanionOf", results(impl.CompanionOf(p, a)), impl.ErrInvalid)
		}
	}
}

// Skew polynomials over a field of the degree 5 or 6 would still have a matrix.
func TestWhatHasNoSquareOfSkew(t *testing.T) {
	for _, p := range primes {
		for _, m := range noFields(p) {
			for _, f := range []impl.Skew{{}, one(), tau(impl.Poly{1}, impl.MaxSkew)} {
				expectCode(t, "SquareOfSkew", results(impl.SquareOfSkew(p, m, f)), impl.ErrInvalid)
			}
		}
	}
}

// What has no generator is told beside the zero vector.
func TestWhereNoGeneratorIsFound(t *testing.T) {
	s := &sampler{state: 121}
	for _, p := range primes {
		for n := 2; n <= impl.MaxRows; n++ {
			for _, k := range knownSquares(t, s, p, n) {
				if len(k.factors) > 1 {
					expectCode(t, "ModuleGenerator", results(impl.ModuleGenerator(p, k.size(), k.s)), impl.ErrNotFound)
				}
			}
			for c := range byte(p) {
				one := multipleOfOne(p, n, c)
				expectCode(t, "ModuleGenerator", results(impl.ModuleGenerator(p, one.size(), one.s)), impl.ErrNotFound)
			}
		}
	}
}
