package tests

import (
	"testing"

	"loop.example/g01245/impl"
)

// What follows finds the results of chapter 5 by the definitions: powers of the matrix one after
// the other, determinants as sums over all permutations, and a trial of all polynomials and vectors.

// square is a matrix with its prime and its size.
type square struct {
	p int64
	n int
	s impl.Square
}

// size is the argument of the program.
func (k square) size() int64 {
	return int64(k.n)
}

// led returns the sum of v[i] times the row i.
func (k square) led(v impl.Row) impl.Row {
	var image impl.Row
	for i := range k.n {
		image = k.plusTimes(image, int64(v[i]), k.s[i])
	}
	return image
}

// plusTimes returns v and c times w together.
func (k square) plusTimes(v impl.Row, c int64, w impl.Row) impl.Row {
	for i := range v {
		v[i] = byte((int64(v[i]) + c*int64(w[i])) % k.p)
	}
	return v
}

// act returns what a leads v to.
func (k square) act(a impl.Poly, v impl.Row) impl.Row {
	var value impl.Row
	for i := range degreeOf(a) + 1 {
		value = k.plusTimes(value, int64(a[i]), v)
		v = k.led(v)
	}
	return value
}

// basis returns the vectors with one entry 1.
func (k square) basis() []impl.Row {
	list := make([]impl.Row, k.n)
	for i := range list {
		list[i][i] = 1
	}
	return list
}

// vectors returns all vectors in lexicographic order.
func (k square) vectors() []impl.Row {
	list := []impl.Row{{}}
	for i := range k.n {
		var longer []impl.Row
		for _, v := range list {
			for c := range byte(k.p) {
				v[i] = c
				longer = append(longer, v)
			}
		}
		list = longer
	}
	return list
}

// leadsToZero reports whether a leads all of the vectors to 0.
func (k square) leadsToZero(a impl.Poly, list []impl.Row) bool {
	for _, v := range list {
		if k.act(a, v) != (impl.Row{}) {
			return false
		}
	}
	return true
}

// least tries all monic polynomials, up to the first one that leads all of the vectors to 0.
func (k square) least(list []impl.Row) impl.Poly {
	a := impl.Poly{1}
	for !k.leadsToZero(a, list) {
		a = nextMonic(k.p, a)
	}
	return a
}

// isLeast tells the same without a trial: no irreducible factor can be taken out of a.
func (k square) isLeast(t *testing.T, a impl.Poly, list []impl.Row) bool {
	t.Helper()
	n := degreeOf(a)
	if n < 0 || a[n] != 1 || !k.leadsToZero(a, list) {
		return false
	}
	for _, f := range factorsByTrying(t, k.p, a) {
		quotient, _ := plainOf(a).divided(k.p, plainOf(f.Prime))
		if k.leadsToZero(quotient.poly(t), list) {
			return false
		}
	}
	return true
}

// characteristic adds up the products of all permutations.
func (k square) characteristic(t *testing.T) impl.Poly {
	t.Helper()
	value := plain{}
	var choose func(row int, taken [6]bool, sign int64, product plain)
	choose = func(row int, taken [6]bool, sign int64, product plain) {
		if row == k.n {
			value = value.plus(k.p, sign, product)
			return
		}
		for i := k.n - 1; i >= 0; i-- {
			if taken[i] {
				continue
			}
			next := taken
			next[i] = true
			choose(row+1, next, sign*signOf(taken, i), product.times(k.p, k.fromT(row, i)))
		}
	}
	choose(0, [6]bool{}, 1, plain{1})
	return value.poly(t)
}

// signOf is -1 if an odd number of places behind i is taken by the rows above.
func signOf(taken [6]bool, i int) int64 {
	sign := int64(1)
	for _, is := range taken[i+1:] {
		if is {
			sign = -sign
		}
	}
	return sign
}

// fromT returns the entry of T less the matrix.
func (k square) fromT(i, j int) plain {
	entry := plain{(k.p - int64(k.s[i][j])) % k.p}
	if i == j {
		entry = append(entry, 1)
	}
	return entry.trimmed()
}

// rank clears the entries below, place by place.
func (k square) rank(rows []impl.Row) int {
	rank := 0
	for i := range k.n {
		at := rank
		for at < len(rows) && rows[at][i] == 0 {
			at++
		}
		if at == len(rows) {
			continue
		}
		rows[rank], rows[at] = rows[at], rows[rank]
		for j := rank + 1; j < len(rows); j++ {
			c := int64(rows[j][i]) * inverseOf(k.p, int64(rows[rank][i])) % k.p
			rows[j] = k.plusTimes(rows[j], k.p-c, rows[rank])
		}
		rank++
	}
	return rank
}

// kernelDimension is that of what a leads to 0.
func (k square) kernelDimension(a impl.Poly) int {
	var images []impl.Row
	for _, v := range k.basis() {
		images = append(images, k.act(a, v))
	}
	return k.n - k.rank(images)
}

// isGenerator reports whether v and what the powers of the matrix make of it reach all vectors.
func (k square) isGenerator(v impl.Row) bool {
	var rows []impl.Row
	for range k.n {
		rows = append(rows, v)
		v = k.led(v)
	}
	return k.rank(rows) == k.n
}

// firstGenerator is for a cyclic module.
func (k square) firstGenerator() impl.Row {
	var v impl.Row
	for !k.isGenerator(v) {
		at := k.n - 1
		for v[at] == byte(k.p-1) {
			v[at] = 0
			at--
		}
		v[at]++
	}
	return v
}

// mixed returns a similar matrix: a multiple of a row is added to another one, and the same
// multiple of the other column subtracted from the first one, again and again.
func (s *sampler) mixed(k square) square {
	for range 6 * k.n * min(k.n-1, 1) {
		i, j, c := int(s.below(int64(k.n))), int(s.below(int64(k.n))), s.below(k.p)
		if i == j {
			continue
		}
		k.s[i] = k.plusTimes(k.s[i], c, k.s[j])
		for row := range k.n {
			k.s[row][j] = byte((int64(k.s[row][j]) + (k.p-c)*int64(k.s[row][i])) % k.p)
		}
	}
	return k
}

func (s *sampler) row(p int64, n int) impl.Row {
	var v impl.Row
	for i := range n {
		v[i] = byte(s.below(p))
	}
	return v
}

func (s *sampler) square(p int64, n int) square {
	k := square{p: p, n: n}
	for i := range n {
		k.s[i] = s.row(p, n)
	}
	return k
}

// diagonal returns the matrix with these entries in the diagonal.
func diagonal(p int64, entries ...byte) square {
	k := square{p: p, n: len(entries)}
	for i, c := range entries {
		k.s[i][i] = c
	}
	return k
}

// multipleOfOne has c in its diagonal.
func multipleOfOne(p int64, n int, c byte) square {
	k := square{p: p, n: n}
	for i := range n {
		k.s[i][i] = c
	}
	return k
}

// companions puts the companions of monic polynomials along the diagonal.
func companions(p int64, list ...impl.Poly) square {
	k := square{p: p}
	for _, a := range list {
		d := degreeOf(a)
		for i := range d {
			if i < d-1 {
				k.s[k.n+i][k.n+i+1] = 1
			}
			k.s[k.n+d-1][k.n+i] = byte((p - int64(a[i])) % p)
		}
		k.n += d
	}
	return k
}

// triangle has the same entry everywhere in its diagonal, and 0 on one side of it.
func (s *sampler) triangle(p int64, n int, upper bool) square {
	k, c := s.square(p, n), byte(s.below(p))
	for i := range n {
		for j := range n {
			if i == j {
				k.s[i][j] = c
			} else if (j < i) == upper {
				k.s[i][j] = 0
			}
		}
	}
	return k
}

// chain returns so many monic polynomials, at most n, each of which divides the next one, of n as
// the sum of their degrees.
func (s *sampler) chain(t *testing.T, p int64, n, count int) []impl.Poly {
	t.Helper()
	last := impl.Poly{1}
	var list []impl.Poly
	for left := count; left > 0; left-- {
		// The degree that is added here comes again in all that follow.
		least, most := 0, n/left
		if left == count {
			least = 1
		}
		d := least + int(s.below(int64(most-least+1)))
		if left == 1 {
			d = n
		}
		last = product(t, p, last, s.monic(p, d))
		list = append(list, last)
		n -= d * left
	}
	return list
}

// known is a matrix with its invariant factors.
type known struct {
	square
	factors []impl.Poly
}

// knownSquares returns matrices of a size with all numbers of invariant factors.
func knownSquares(t *testing.T, s *sampler, p int64, n int) []known {
	t.Helper()
	var list []known
	for count := 1; count <= n; count++ {
		for range 3 {
			factors := s.chain(t, p, n, count)
			k := companions(p, factors...)
			list = append(list, known{k, factors}, known{s.mixed(k), factors})
		}
	}
	return list
}

// mixedSquares returns matrices of a size of all kinds.
func mixedSquares(t *testing.T, s *sampler, p int64, n int) []square {
	t.Helper()
	list := []square{multipleOfOne(p, n, 0)}
	for c := byte(1); c < byte(p); c++ {
		list = append(list, multipleOfOne(p, n, c))
	}
	for range 4 {
		list = append(list, s.square(p, n), s.triangle(p, n, true), s.triangle(p, n, false))
	}
	for _, k := range knownSquares(t, s, p, n) {
		list = append(list, k.square)
	}
	// All entries are as great as they can be.
	full := square{p: p, n: n}
	for i := range n {
		for j := range n {
			full.s[i][j] = byte(p - 1)
		}
	}
	return append(list, full, companions(p, monomial(n)))
}

// polysFor returns polynomials of all kinds of degrees: among them those that lead something to 0.
func polysFor(t *testing.T, s *sampler, k square) []impl.Poly {
	t.Helper()
	list := []impl.Poly{{}, {1}, {byte(k.p - 1)}, monomial(1), monomial(k.n), monomial(63), full(k.p, 63)}
	list = append(list, s.upTo(k.p, 6), s.upTo(k.p, 63), s.poly(k.p, 63))
	for _, f := range factorsByTrying(t, k.p, k.characteristic(t)) {
		list = append(list, f.Prime, product(t, k.p, f.Prime, f.Prime), product(t, k.p, f.Prime, s.poly(k.p, 57)))
	}
	return list
}

// smallSizes bound the sizes for which all vectors are tried.
var smallSizes = map[int64]int{2: 5, 3: 3, 5: 2, 7: 2}
