package tests

import (
	"fmt"
	"regexp"
	"slices"
	"strings"
	"testing"

	"loop.example/g01245/impl"
)

// What follows executes lines in another way: each command of the document's table has a pattern for
// all that is behind it, and the function of the chapters before that the table names.

// outcome is the desk and the output that a line would have if the code is ErrNone.
type outcome struct {
	desk   impl.Desk
	output string
	code   int64
}

// bench is a desk on which a line is executed.
type bench struct {
	impl.Desk
}

// command has as its pattern the words behind it, as the table tells them.
type command struct {
	name, pattern string
	run           func(d bench, words []string) outcome
}

var patterns = map[string]*regexp.Regexp{
	"":     regexp.MustCompile(`^$`),
	"TEXT": regexp.MustCompile(`^ ((?s:.*))$`),
	"N":    regexp.MustCompile(`^ (0|[1-9][0-9]{0,8})$`),
	"N K":  regexp.MustCompile(`^ (0|[1-9][0-9]{0,8}) (0|[1-9][0-9]{0,8})$`),
}

func textOf(a impl.Poly) string {
	text := ""
	for i := range max(degreeOf(a), 0) + 1 {
		text = fmt.Sprint(a[i]) + text
	}
	return text
}

func joined[E any](list []E, told func(E) string) string {
	if len(list) == 0 {
		return "none"
	}
	text := ""
	for _, part := range list {
		text += " " + told(part)
	}
	return text[1:]
}

// told is the output for a value.
func told(value any) string {
	switch v := value.(type) {
	case impl.Poly:
		return textOf(v)
	case []impl.Poly:
		return joined(v, textOf)
	case []int64:
		return joined(v, func(n int64) string { return fmt.Sprint(n) })
	case []impl.Factor:
		return joined(v, func(f impl.Factor) string { return fmt.Sprintf("%s^%d", textOf(f.Prime), f.Power) })
	case bool:
		return map[bool]string{true: "yes", false: "no"}[v]
	}
	return fmt.Sprint(value)
}

// tells is for a line that does nothing to the desk.
func (d bench) tells(value any, code int64) outcome {
	return outcome{d.Desk, told(value), code}
}

func (d bench) first(a impl.Poly, code int64) outcome {
	d.First = a
	return d.tells(a, code)
}

func (d bench) second(b impl.Poly, code int64) outcome {
	d.Second = b
	return d.tells(b, code)
}

func (d bench) mod(m impl.Poly, code int64) outcome {
	if n := degreeOf(m); n < 1 || n > impl.MaxModulus || m[n] != 1 {
		return outcome{code: impl.ErrRange}
	}
	d.Mod = m
	return d.tells(m, code)
}

func (d bench) prime(p int64) outcome {
	if !slices.Contains(primes, p) {
		return outcome{code: impl.ErrRange}
	}
	return outcome{impl.Desk{Prime: p, First: poly("10"), Second: poly("1"), Mod: poly("10")}, fmt.Sprint(p), impl.ErrNone}
}

func (d bench) drinfeld() outcome {
	a, b, code := impl.FrobeniusOf(impl.Drinfeld{Prime: d.Prime, Mod: d.Mod, G: d.First, D: d.Second})
	return d.tells([]impl.Poly{a, b}, code)
}

func (d bench) division(first bool) outcome {
	q, r, code := impl.DividePolys(d.Prime, d.First, d.Second)
	if first {
		return d.first(q, code)
	}
	return d.first(r, code)
}

func (d bench) swapped() outcome {
	d.First, d.Second = d.Second, d.First
	return d.tells(d.First, impl.ErrNone)
}

func newDeskBy() impl.Desk {
	return impl.Desk{Prime: 3, First: poly("10"), Second: poly("1"), Mod: poly("101")}
}

// numberIn reads a word that fits the pattern of a number.
func numberIn(word string) int64 {
	n := int64(0)
	for _, digit := range word {
		n = 10*n + int64(digit-'0')
	}
	return n
}

func commands() []command {
	type w = []string
	return []command{
		{"prime", "N", func(d bench, w w) outcome { return d.prime(numberIn(w[0])) }},
		{"first", "TEXT", func(d bench, w w) outcome { return d.first(impl.ParsePoly(d.Prime, w[0])) }},
		{"second", "TEXT", func(d bench, w w) outcome { return d.second(impl.ParsePoly(d.Prime, w[0])) }},
		{"mod", "TEXT", func(d bench, w w) outcome { return d.mod(impl.ParsePoly(d.Prime, w[0])) }},
		{"swap", "", func(d bench, _ w) outcome { return d.swapped() }},
		{"plus", "", func(d bench, _ w) outcome { return d.first(impl.AddPolys(d.Prime, d.First, d.Second)) }},
		{"times", "", func(d bench, _ w) outcome { return d.first(impl.MultiplyPolys(d.Prime, d.First, d.Second)) }},
		{"divide", "", func(d bench, _ w) outcome { return d.division(true) }},
		{"rest", "", func(d bench, _ w) outcome { return d.division(false) }},
		{"gcd", "", func(d bench, _ w) outcome { return d.first(impl.GcdOf(d.Prime, d.First, d.Second)) }},
		{"show", "", func(d bench, _ w) outcome { return d.tells(d.First, impl.ErrNone) }},
		{"other", "", func(d bench, _ w) outcome { return d.tells(d.Second, impl.ErrNone) }},
		{"modulus", "", func(d bench, _ w) outcome { return d.tells(d.Mod, impl.ErrNone) }},
		{"irreducible", "", func(d bench, _ w) outcome { return d.tells(impl.IsIrreducible(d.Prime, d.First)) }},
		{"factors", "", func(d bench, _ w) outcome { return d.tells(impl.FactorsOf(d.Prime, d.First)) }},
		{"inverse", "", func(d bench, _ w) outcome { return d.first(impl.InverseModulo(d.Prime, d.First, d.Mod)) }},
		{"order", "", func(d bench, _ w) outcome { return d.tells(impl.OrderModulo(d.Prime, d.First, d.Mod)) }},
		{"primitive", "", func(d bench, _ w) outcome { return d.first(impl.PrimitiveOf(d.Prime, d.Mod)) }},
		{"symbol", "", func(d bench, _ w) outcome { return d.tells(impl.SymbolOf(d.Prime, d.First, d.Mod)) }},
		{"action", "", func(d bench, _ w) outcome { return d.tells(impl.ActionOf(d.Prime, d.First)) }},
		{"act", "", func(d bench, _ w) outcome { return d.second(impl.ActOnResidue(d.Prime, d.First, d.Second, d.Mod)) }},
		{"annihilator", "", func(d bench, _ w) outcome { return d.tells(impl.AnnihilatorOf(d.Prime, d.First, d.Mod)) }},
		{"exponent", "", func(d bench, _ w) outcome { return d.tells(impl.ExponentOf(d.Prime, d.Mod)) }},
		{"torsion", "", func(d bench, _ w) outcome { return d.tells(impl.TorsionNumber(d.Prime, d.First, d.Mod)) }},
		{"bracket", "N", func(d bench, w w) outcome { return d.first(impl.BracketOf(d.Prime, numberIn(w[0]))) }},
		{"drinfeld", "", func(d bench, _ w) outcome { return d.drinfeld() }},
		{"sum", "N K", func(d bench, w w) outcome { return d.first(impl.PowerSum(d.Prime, numberIn(w[0]), numberIn(w[1]))) }},
		{"zeta", "N", func(d bench, w w) outcome { return d.first(impl.ZetaAt(d.Prime, numberIn(w[0]))) }},
		{"lpoly", "", func(d bench, _ w) outcome { return d.tells(impl.SymbolPolynomial(d.Prime, d.Mod)) }},
		{"fraction", "", func(d bench, _ w) outcome { return d.tells(impl.ContinuedFraction(d.Prime, d.First, d.Second)) }},
		{"digits", "N", func(d bench, w w) outcome {
			return d.tells(impl.DigitsOfQuotient(d.Prime, d.First, d.Second, numberIn(w[0])))
		}},
		{"root", "N", func(d bench, w w) outcome { return d.tells(impl.DigitsOfRoot(d.Prime, d.First, numberIn(w[0]))) }},
		{"reset", "", func(d bench, _ w) outcome { return outcome{newDeskBy(), "ok", impl.ErrNone} }},
	}
}

// lineBy executes a line on a desk.
func lineBy(d impl.Desk, line string) (impl.Desk, string) {
	for _, c := range commands() {
		behind, found := strings.CutPrefix(line, c.name)
		words := patterns[c.pattern].FindStringSubmatch(behind)
		if !found || words == nil {
			continue
		}
		if got := c.run(bench{d}, words[1:]); got.code == impl.ErrNone {
			return got.desk, got.output
		}
	}
	return d, "error"
}

func shown(d impl.Desk) string {
	return fmt.Sprintf("{%d %s %s %s}", d.Prime, textOf(d.First), textOf(d.Second), textOf(d.Mod))
}

func expectLine(t *testing.T, d impl.Desk, line string, want impl.Desk, output string) {
	t.Helper()
	if got, out := impl.RunLine(d, line); got != want || out != output {
		t.Errorf("RunLine(%s, %q) = %s, %q, want %s, %q", shown(d), line, shown(got), out, shown(want), output)
	}
}

// expectWrong is for lines that change nothing.
func expectWrong(t *testing.T, d impl.Desk, line string) {
	t.Helper()
	expectLine(t, d, line, d, "error")
}

// deskOf is a desk told by texts.
func deskOf(p int64, first, second, mod string) impl.Desk {
	return impl.Desk{Prime: p, First: poly(first), Second: poly(second), Mod: poly(mod)}
}

// desks returns desks of a prime with moduli of all kinds: each with polynomials that are 0, numbers,
// residues or not, squares, of degrees next to limits, or in common with the modulus or each other.
func (s *sampler) desks(t *testing.T, p int64) []impl.Desk {
	t.Helper()
	var list []impl.Desk
	for _, m := range mixedModuli(t, s, p) {
		root := s.monic(p, 1+int(s.below(12)))
		some := []impl.Poly{
			{}, {1}, {byte(p - 1)}, monomial(1), m, s.upTo(p, degreeOf(m)-1), s.upTo(p, degreeOf(m)-1),
			s.upTo(p, 6), s.poly(p, 7), s.monic(p, 12), s.poly(p, 13), product(t, p, root, root),
			product(t, p, s.poly(p, 2), m), s.poly(p, 31), s.poly(p, 32), full(p, 62), s.poly(p, 63),
		}
		for _, a := range some {
			for range 2 {
				b := some[s.below(int64(len(some)))]
				list = append(list, impl.Desk{Prime: p, First: a, Second: b, Mod: m})
			}
		}
	}
	return list
}

// line returns a line for a command, with words that it mostly takes.
func (s *sampler) line(p int64, c command) string {
	number := func() string { return fmt.Sprint(s.below([]int64{4, 9, 45}[s.below(3)])) }
	switch c.pattern {
	case "TEXT":
		return c.name + " " + textOf(s.monic(p, int(s.below(7))))
	case "N":
		if c.name == "prime" && s.below(2) == 0 {
			return fmt.Sprint("prime ", primes[s.below(4)])
		}
		return c.name + " " + number()
	case "N K":
		return c.name + " " + number() + " " + number()
	}
	return c.name
}

// goodLine returns a line for a command with as many words as it needs, and reports whether the easy desk
// of a prime executes it.
func goodLine(p int64, c command) (string, bool) {
	executed := p > 2 || c.name != "root" && c.name != "lpoly"
	switch {
	case c.name == "prime":
		return "prime 5", executed
	case c.pattern == "TEXT":
		return c.name + " 11", executed
	case c.pattern == "N":
		return c.name + " 1", executed
	case c.pattern == "N K":
		return c.name + " 1 1", executed
	}
	return c.name, executed
}

// easyDesk has a unit that is a square, and an irreducible modulus.
func easyDesk(p int64) impl.Desk {
	return deskOf(p, "1", "1", "10")
}
