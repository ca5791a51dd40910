package tests

import (
	"slices"
	"testing"

	"loop.example/g01245/impl"
)

// What follows finds the results of chapter 9 by the definitions: determinants as sums over all
// orders of the columns, spans as all sums of residues, and a search through all words of a code.

// orders returns all orders of 0 to n - 1.
func orders(n int) [][]int {
	if n == 0 {
		return [][]int{nil}
	}
	var list [][]int
	for _, order := range orders(n - 1) {
		for i := range n {
			list = append(list, slices.Insert(slices.Clone(order), i, n-1))
		}
	}
	return list
}

// mooreByOrders returns the determinant of the Moore matrix.
func (k *tower) mooreByOrders(list []impl.Poly) impl.Poly {
	var all impl.Poly
	for _, order := range orders(len(list)) {
		product := impl.Poly{1}
		for i, column := range order {
			product = k.times(product, k.raised(list[column], i))
			for _, before := range order[:i] {
				if before > column {
					product = k.opposite(product)
				}
			}
		}
		all = k.plus(all, product)
	}
	return all
}

// isIndependent asks for all sums of the residues to be different.
func (k *tower) isIndependent(list []impl.Poly) bool {
	return k.dimension(len(k.span(list))) == len(list)
}

// rank is that of residues whose coefficients are the rows of a matrix.
func (k *tower) rank(list []impl.Poly) int {
	var rows []impl.Row
	for _, x := range list {
		rows = append(rows, impl.Row(x[:impl.MaxRows]))
	}
	return square{p: k.p, n: k.degree()}.rank(rows)
}

// apart returns the difference of two words.
func (k *tower) apart(v, w []impl.Poly) []impl.Poly {
	list := slices.Clone(v)
	for i := range list {
		list[i] = plusTimes(k.p, v[i], byte(k.p-1), w[i])
	}
	return list
}

// isReducedList reports whether a list tells a space as the document wants it.
func isReducedList(list []impl.Poly) bool {
	for i, x := range list {
		n := degreeOf(x)
		if n < 0 || x[n] != 1 || i > 0 && n >= degreeOf(list[i-1]) {
			return false
		}
		for j, y := range list {
			if j != i && y[n] != 0 {
				return false
			}
		}
	}
	return true
}

// skewOf has the residues as its first coefficients.
func skewOf(list []impl.Poly) impl.Skew {
	var f impl.Skew
	copy(f[:], list)
	return f
}

// rankCode has a field, independent places, and a number of coefficients.
type rankCode struct {
	*tower
	places []impl.Poly
	size   int
}

// coefficients is the argument of the program.
func (k rankCode) coefficients() int64 {
	return int64(k.size)
}

// most is the greatest rank of an error after which a word is decoded.
func (k rankCode) most() int {
	return (len(k.places) - k.size) / 2
}

func (k rankCode) encoded(message []impl.Poly) []impl.Poly {
	var word []impl.Poly
	for _, x := range k.places {
		word = append(word, k.value(skewOf(message), x))
	}
	return word
}

// spoilt returns the word and an error together.
func (k rankCode) spoilt(word, wrong []impl.Poly) []impl.Poly {
	list := slices.Clone(word)
	for i := range list {
		list[i] = k.plus(list[i], wrong[i])
	}
	return list
}

// isSmall reports whether the code has at most so many words.
func (k rankCode) isSmall(limit int) bool {
	count := 1
	for range k.size {
		count *= len(k.all)
	}
	return count <= limit
}

// sent is a list of coefficients with the word that it makes.
type sent struct {
	message, word []impl.Poly
}

// words encodes all lists.
func (k rankCode) words() []sent {
	var list []sent
	for _, message := range allLists(k.tower, k.size) {
		list = append(list, sent{message, k.encoded(message)})
	}
	return list
}

// search returns the list of the only word that is near enough, or nil.
func (k rankCode) search(t *testing.T, all []sent, word []impl.Poly) []impl.Poly {
	t.Helper()
	var found []impl.Poly
	for _, one := range all {
		if k.rank(k.apart(word, one.word)) > k.most() {
			continue
		}
		if found != nil {
			t.Fatalf("%d, %v: %v and %v are both near %v", k.p, k.m, found, one.message, word)
		}
		found = one.message
	}
	return found
}

func (s *sampler) list(k *tower, n int) []impl.Poly {
	var list []impl.Poly
	for range n {
		list = append(list, s.residue(k))
	}
	return list
}

// independent is for n of at most the degree of the field.
func (s *sampler) independent(k *tower, n int) []impl.Poly {
	list := s.list(k, n)
	for k.rank(list) < n {
		list = s.list(k, n)
	}
	return list
}

// dependent returns n residues of a rank that is less than n, for n of at least 1.
func (s *sampler) dependent(k *tower, n int) []impl.Poly {
	return s.ofRank(k, n, int(s.below(int64(min(n, k.degree()+1)))))
}

// ofRank returns n residues of a rank of at most n and of the degree of the field.
func (s *sampler) ofRank(k *tower, n, rank int) []impl.Poly {
	basis := s.independent(k, rank)
	list := make([]impl.Poly, n)
	for k.rank(list) < rank {
		for i := range list {
			list[i] = impl.Poly{}
			for _, x := range basis {
				list[i] = plusTimes(k.p, list[i], byte(s.below(k.p)), x)
			}
		}
	}
	return list
}

// rankCodes returns codes with all numbers of places and coefficients over a field: the places are
// powers of T, and samples.
func (s *sampler) rankCodes(k *tower) []rankCode {
	var list []rankCode
	for n := 1; n <= k.degree(); n++ {
		var powers []impl.Poly
		for i := range n {
			powers = append(powers, monomial(i))
		}
		for size := 1; size <= n; size++ {
			list = append(list, rankCode{k, powers, size}, rankCode{k, s.independent(k, n), size})
		}
	}
	return list
}
