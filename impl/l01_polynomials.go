package impl

// Poly holds the coefficient of T^i at i.
type Poly [64]byte

// Error codes of all chapters.
const (
	ErrNone = iota
	ErrInvalid
	ErrRange
	ErrLimit
	ErrNotFound
	ErrState
	ErrSyntax
)

// Constants of chapter 1.
const (
	MaxDegree = 63
	MaxListed = 343
	MaxNumber = 1000000000000
)

// wide has room for the product of any two polynomials, before a rest of it is taken.
type wide [2*MaxDegree + 2]byte

// euclidRow is one step of the search for a common divisor: rest is u times the first
// polynomial and v times the second one.
type euclidRow struct {
	rest, u, v Poly
}

func isPrime(p int64) bool {
	switch p {
	case 2, 3, 5, 7:
		return true
	}
	return false
}

// checkPolys returns ErrInvalid if p is no prime, or something in the list is no polynomial for it.
func checkPolys(p int64, list ...Poly) int64 {
	if !isPrime(p) {
		return ErrInvalid
	}
	for _, a := range list {
		if !IsPoly(p, a) {
			return ErrInvalid
		}
	}
	return ErrNone
}

func degree(a Poly) int {
	for i := MaxDegree; i >= 0; i-- {
		if a[i] != 0 {
			return i
		}
	}
	return -1
}

func inverseNumber(p int64, c byte) byte {
	inverse := byte(1)
	for inverse*c%byte(p) != 1 {
		inverse++
	}
	return inverse
}

func sum(p int64, a, b Poly) Poly {
	for i := range a {
		a[i] = (a[i] + b[i]) % byte(p)
	}
	return a
}

func difference(p int64, a, b Poly) Poly {
	for i := range a {
		a[i] = (a[i] + byte(p) - b[i]) % byte(p)
	}
	return a
}

func scaled(p int64, a Poly, c byte) Poly {
	for i := range a {
		a[i] = a[i] * c % byte(p)
	}
	return a
}

// madeMonic is for a other than 0.
func madeMonic(p int64, a Poly) Poly {
	return scaled(p, a, inverseNumber(p, a[degree(a)]))
}

func derivative(p int64, a Poly) Poly {
	var slope Poly
	for i := 1; i <= MaxDegree; i++ {
		slope[i-1] = byte(int64(i)%p) * a[i] % byte(p)
	}
	return slope
}

// stretched puts T^q in the place of T, which gives the power q of a if q is a power of p. It is
// for a whose degree times q is known to fit.
func stretched(a Poly, q int) Poly {
	var power Poly
	for i := range degree(a) + 1 {
		power[i*q] = a[i]
	}
	return power
}

func wideProduct(p int64, a, b Poly) wide {
	var w wide
	high := degree(b)
	for i := range degree(a) + 1 {
		for j := range high + 1 {
			w[i+j] = (w[i+j] + a[i]*b[j]) % byte(p)
		}
	}
	return w
}

// product is for factors whose degrees are known to fit.
func product(p int64, a, b Poly) Poly {
	w := wideProduct(p, a, b)
	return Poly(w[:MaxDegree+1])
}

// longDivision divides a by b, other than 0; what it leaves of a is the rest.
func longDivision(p int64, a wide, b Poly) (wide, Poly) {
	var quotient wide
	var times byte
	low := degree(b)
	inverse := inverseNumber(p, b[low])
	top := len(a) - 1
look:
	if top < low {
		goto done
	}
	if a[top] == 0 {
		goto next
	}
	times = a[top] * inverse % byte(p)
	quotient[top-low] = times
	for i := range low + 1 {
		a[top-low+i] = (a[top-low+i] + (byte(p)-times)*b[i]) % byte(p)
	}
next:
	top--
	goto look
done:
	return quotient, Poly(a[:MaxDegree+1])
}

func quotientAndRest(p int64, a, b Poly) (Poly, Poly) {
	var w wide
	copy(w[:], a[:])
	quotient, rest := longDivision(p, w, b)
	return Poly(quotient[:MaxDegree+1]), rest
}

func restOf(p int64, a, m Poly) Poly {
	_, rest := quotientAndRest(p, a, m)
	return rest
}

func restOfProduct(p int64, a, b, m Poly) Poly {
	_, rest := longDivision(p, wideProduct(p, a, b), m)
	return rest
}

// bezout needs one of a and b to be other than 0. No product in it exceeds MaxDegree: the
// factors of a row have at most the degree of the other polynomial.
func bezout(p int64, a, b Poly) (Poly, Poly, Poly) {
	last, next := euclidRow{rest: a, u: Poly{1}}, euclidRow{rest: b, v: Poly{1}}
	for next.rest != (Poly{}) {
		q, r := quotientAndRest(p, last.rest, next.rest)
		u := difference(p, last.u, product(p, q, next.u))
		v := difference(p, last.v, product(p, q, next.v))
		last, next = next, euclidRow{rest: r, u: u, v: v}
	}
	c := inverseNumber(p, last.rest[degree(last.rest)])
	return scaled(p, last.rest, c), scaled(p, last.u, c), scaled(p, last.v, c)
}

// power multiplies by times, for which one changes nothing. Repeated squares run into a cycle
// where there are few different ones, so that each is found once and then remembered for this
// power.
func power[E comparable](one, a E, k int64, times func(E, E) E) E {
	squares := map[E]E{}
	result := one
	for k > 0 {
		if k%2 == 1 {
			result = times(result, a)
		}
		k /= 2
		// The square behind the last one needed may exceed MaxDegree.
		if k > 0 {
			square, known := squares[a]
			if !known {
				square = times(a, a)
				squares[a] = square
			}
			a = square
		}
	}
	return result
}

// powerOf is for powers whose degrees are known to fit.
func powerOf(p int64, a Poly, k int64) Poly {
	times := func(x, y Poly) Poly { return product(p, x, y) }
	return power(Poly{1}, a, k, times)
}

func powerModulo(p int64, a Poly, k int64, m Poly) Poly {
	times := func(x, y Poly) Poly { return restOfProduct(p, x, y, m) }
	// The power 0 is 1, which is no rest yet if m is a number.
	return restOf(p, power(Poly{1}, a, k, times), m)
}

func valueAt(p int64, a Poly, x int64) int64 {
	value := int64(0)
	for i := degree(a); i >= 0; i-- {
		value = (value*x + int64(a[i])) % p
	}
	return value
}

func polyOfNumber(p, n int64) Poly {
	var a Poly
	for i := 0; n > 0; i++ {
		a[i] = byte(n % p)
		n /= p
	}
	return a
}

// IsPoly reports whether p is a prime, and a a polynomial for it.
func IsPoly(p int64, a Poly) bool {
	if !isPrime(p) {
		return false
	}
	for _, c := range a {
		if int64(c) >= p {
			return false
		}
	}
	return true
}

// DegreeOf returns the degree of a, and ErrNone.
func DegreeOf(p int64, a Poly) (int64, int64) {
	if code := checkPolys(p, a); code != ErrNone {
		return 0, code
	}
	return int64(degree(a)), ErrNone
}

// AddPolys returns the sum, and ErrNone.
func AddPolys(p int64, a Poly, b Poly) (Poly, int64) {
	if code := checkPolys(p, a, b); code != ErrNone {
		return Poly{}, code
	}
	return sum(p, a, b), ErrNone
}

// SubtractPolys returns a less b, and ErrNone.
func SubtractPolys(p int64, a Poly, b Poly) (Poly, int64) {
	if code := checkPolys(p, a, b); code != ErrNone {
		return Poly{}, code
	}
	return difference(p, a, b), ErrNone
}

// MultiplyPolys returns the product, and ErrNone.
func MultiplyPolys(p int64, a Poly, b Poly) (Poly, int64) {
	if code := checkPolys(p, a, b); code != ErrNone {
		return Poly{}, code
	}
	if degree(a)+degree(b) > MaxDegree {
		return Poly{}, ErrLimit
	}
	return product(p, a, b), ErrNone
}

// DividePolys returns q and r of a divided by b, and ErrNone. Errors: ErrState if b is 0.
func DividePolys(p int64, a Poly, b Poly) (Poly, Poly, int64) {
	if code := checkPolys(p, a, b); code != ErrNone {
		return Poly{}, Poly{}, code
	}
	if b == (Poly{}) {
		return Poly{}, Poly{}, ErrState
	}
	q, r := quotientAndRest(p, a, b)
	return q, r, ErrNone
}

// GcdOf returns the greatest common divisor of a and b, and ErrNone. Errors: ErrState if both are
// 0.
func GcdOf(p int64, a Poly, b Poly) (Poly, int64) {
	d, _, _, code := BezoutOf(p, a, b)
	return d, code
}

// BezoutOf returns the greatest common divisor of a and b and its factors u and v, and ErrNone.
// Errors: ErrState if both are 0.
func BezoutOf(p int64, a Poly, b Poly) (Poly, Poly, Poly, int64) {
	if code := checkPolys(p, a, b); code != ErrNone {
		return Poly{}, Poly{}, Poly{}, code
	}
	if a == (Poly{}) && b == (Poly{}) {
		return Poly{}, Poly{}, Poly{}, ErrState
	}
	d, u, v := bezout(p, a, b)
	return d, u, v, ErrNone
}

// ValueAt returns the number that arises if T is replaced by x, in 0..p - 1, and ErrNone.
func ValueAt(p int64, a Poly, x int64) (int64, int64) {
	if code := checkPolys(p, a); code != ErrNone {
		return 0, code
	}
	if x < 0 || x >= p {
		return 0, ErrRange
	}
	return valueAt(p, a, x), ErrNone
}

// RootsOf returns all x in 0..p - 1 for which the value is 0, in ascending order, and ErrNone.
// Errors: ErrState if a is 0.
func RootsOf(p int64, a Poly) ([]int64, int64) {
	if code := checkPolys(p, a); code != ErrNone {
		return nil, code
	}
	if a == (Poly{}) {
		return nil, ErrState
	}
	var roots []int64
	for x := range p {
		if valueAt(p, a, x) == 0 {
			roots = append(roots, x)
		}
	}
	return roots, ErrNone
}

// DerivativeOf returns the sum of i times the coefficient of T^i, times T^(i - 1), and ErrNone.
func DerivativeOf(p int64, a Poly) (Poly, int64) {
	if code := checkPolys(p, a); code != ErrNone {
		return Poly{}, code
	}
	return derivative(p, a), ErrNone
}

// PowerOf returns a to the power k, in 0..MaxNumber, and ErrNone; the power 0 is 1.
func PowerOf(p int64, a Poly, k int64) (Poly, int64) {
	if code := checkPolys(p, a); code != ErrNone {
		return Poly{}, code
	}
	if k < 0 || k > MaxNumber {
		return Poly{}, ErrRange
	}
	if int64(degree(a))*k > MaxDegree {
		return Poly{}, ErrLimit
	}
	return powerOf(p, a, k), ErrNone
}

// PowerModulo returns the rest of a to the power k, in 0..MaxNumber, divided by m, and ErrNone.
// Errors: ErrState if m is 0.
func PowerModulo(p int64, a Poly, k int64, m Poly) (Poly, int64) {
	if code := checkPolys(p, a, m); code != ErrNone {
		return Poly{}, code
	}
	if k < 0 || k > MaxNumber {
		return Poly{}, ErrRange
	}
	if m == (Poly{}) {
		return Poly{}, ErrState
	}
	return powerModulo(p, a, k, m), ErrNone
}

// ComposePolys returns what arises if T is replaced by b in a, and ErrNone.
func ComposePolys(p int64, a Poly, b Poly) (Poly, int64) {
	if code := checkPolys(p, a, b); code != ErrNone {
		return Poly{}, code
	}
	if degree(a)*degree(b) > MaxDegree {
		return Poly{}, ErrLimit
	}
	var composed Poly
	for i := degree(a); i >= 0; i-- {
		composed = sum(p, product(p, composed, b), Poly{a[i]})
	}
	return composed, ErrNone
}

// MonicPolys returns all monic polynomials of the degree n, in 0..MaxDegree, in order, and
// ErrNone. Errors: ErrLimit if there are more than MaxListed.
func MonicPolys(p int64, n int64) ([]Poly, int64) {
	if !isPrime(p) {
		return nil, ErrInvalid
	}
	if n < 0 || n > MaxDegree {
		return nil, ErrRange
	}
	first := int64(1)
	for range n {
		first *= p
		if first > MaxListed {
			return nil, ErrLimit
		}
	}
	// T^n has the number p^n, and there are p^n polynomials of lesser degrees.
	var list []Poly
	for number := first; number < 2*first; number++ {
		list = append(list, polyOfNumber(p, number))
	}
	return list, ErrNone
}

// NumberOfPoly returns the number of a, and ErrNone. Errors: ErrLimit if it is greater than
// MaxNumber.
func NumberOfPoly(p int64, a Poly) (int64, int64) {
	if code := checkPolys(p, a); code != ErrNone {
		return 0, code
	}
	number := int64(0)
	for i := degree(a); i >= 0; i-- {
		number = number*p + int64(a[i])
		// Stopping here keeps the number far from an overflow; it never falls again.
		if number > MaxNumber {
			return 0, ErrLimit
		}
	}
	return number, ErrNone
}

// PolyOfNumber returns the polynomial with the number n, in 0..MaxNumber, and ErrNone.
func PolyOfNumber(p int64, n int64) (Poly, int64) {
	if !isPrime(p) {
		return Poly{}, ErrInvalid
	}
	if n < 0 || n > MaxNumber {
		return Poly{}, ErrRange
	}
	return polyOfNumber(p, n), ErrNone
}

// PolyText returns the text of a, and ErrNone.
func PolyText(p int64, a Poly) (string, int64) {
	if code := checkPolys(p, a); code != ErrNone {
		return "", code
	}
	var digits []byte
	for i := max(degree(a), 0); i >= 0; i-- {
		digits = append(digits, '0'+a[i])
	}
	return string(digits), ErrNone
}

// ParsePoly returns the polynomial for p with a text, and ErrNone. Errors: ErrSyntax if there is
// none. (ErrLimit is not returned.)
func ParsePoly(p int64, text string) (Poly, int64) {
	if !isPrime(p) {
		return Poly{}, ErrInvalid
	}
	length := len(text)
	if length == 0 || length > MaxDegree+1 || length > 1 && text[0] == '0' {
		return Poly{}, ErrSyntax
	}
	var a Poly
	for i := range length {
		digit := int64(text[i]) - '0'
		if digit < 0 || digit >= p {
			return Poly{}, ErrSyntax
		}
		a[length-1-i] = byte(digit)
	}
	return a, ErrNone
}
