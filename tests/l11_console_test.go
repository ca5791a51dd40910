package tests

import (
	"fmt"
	"strings"
	"testing"

	"loop.example/g01245/impl"
)

func TestConstantsOfChapter11(t *testing.T) {
	if impl.MaxConsole != 3000 || impl.MaxLines != 40 {
		t.Errorf("limits %d and %d", impl.MaxConsole, impl.MaxLines)
	}
}

func TestNewDesk(t *testing.T) {
	want := impl.Desk{Prime: 3, First: impl.Poly{0, 1}, Second: impl.Poly{1}, Mod: impl.Poly{1, 0, 1}}
	if got := impl.NewDesk(); got != want || !impl.IsDesk(got) {
		t.Errorf("NewDesk() = %s", shown(got))
	}
}

func TestIsDesk(t *testing.T) {
	s := &sampler{state: 600}
	for _, p := range primes {
		for _, d := range s.desks(t, p) {
			if !impl.IsDesk(d) {
				t.Errorf("%s is no desk", shown(d))
			}
		}
		for n := 1; n <= impl.MaxModulus; n++ {
			for _, m := range []impl.Poly{monomial(n), s.monic(p, n)} {
				if d := (impl.Desk{Prime: p, Mod: m}); !impl.IsDesk(d) {
					t.Errorf("%s is no desk", shown(d))
				}
			}
		}
	}
}

// Each command is executed on all desks, and has to be executed and refused often enough to be known.
func TestCommands(t *testing.T) {
	s := &sampler{state: 601}
	for _, p := range primes {
		executed, refused := map[string]int{}, map[string]int{}
		for _, d := range s.desks(t, p) {
			for _, c := range commands() {
				line := s.line(p, c)
				want, output := lineBy(d, line)
				expectLine(t, d, line, want, output)
				if output == "error" {
					refused[c.name]++
				} else {
					executed[c.name]++
				}
			}
		}
		for _, c := range commands() {
			if _, possible := goodLine(p, c); possible && executed[c.name] < 15 {
				t.Errorf("%d: %q is executed %d times", p, c.name, executed[c.name])
			}
		}
		for _, name := range strings.Fields("prime mod times divide rest gcd irreducible factors inverse order primitive " +
			"action bracket drinfeld sum zeta lpoly fraction digits root") {
			if refused[name] == 0 && (name != "lpoly" || p != 3) {
				t.Errorf("%d: %q is never refused", p, name)
			}
		}
	}
}

// All numbers up to the greatest ones in the range of a function, and those next to them.
func TestCommandsWithNumbers(t *testing.T) {
	s := &sampler{state: 602}
	for _, p := range primes {
		for _, d := range []impl.Desk{easyDesk(p), {Prime: p, First: s.monic(p, 6), Second: s.poly(p, 5), Mod: s.monic(p, 3)}} {
			for n := range 70 {
				for _, name := range []string{"prime", "bracket", "zeta", "digits", "root"} {
					line := fmt.Sprint(name, " ", n)
					want, output := lineBy(d, line)
					expectLine(t, d, line, want, output)
				}
			}
			for n := range 12 {
				for k := range 50 {
					line := fmt.Sprint("sum ", n, " ", k)
					want, output := lineBy(d, line)
					expectLine(t, d, line, want, output)
				}
			}
		}
	}
}

func TestLinesByHand(t *testing.T) {
	for _, c := range []struct {
		p                  int64
		first, second, mod string
		line, output       string
		after              impl.Desk
	}{
		{2, "110", "101", "111", "prime 7", "7", deskOf(7, "10", "1", "10")},
		{7, "65", "123", "16", "prime 2", "2", deskOf(2, "10", "1", "10")},
		{5, "42", "123", "12", "prime 3", "3", deskOf(3, "10", "1", "10")},
		{3, "21", "12", "101", "first 1021", "1021", deskOf(3, "1021", "12", "101")},
		{3, "21", "12", "101", "second 0", "0", deskOf(3, "21", "0", "101")},
		{3, "21", "12", "101", "mod 10212", "10212", deskOf(3, "21", "12", "10212")},
		{3, "21", "12", "101", "mod 10", "10", deskOf(3, "21", "12", "10")},
		{5, "43", "1", "12", "swap", "1", deskOf(5, "1", "43", "12")},
		{5, "43", "12", "12", "plus", "0", deskOf(5, "0", "12", "12")},
		{5, "43", "2", "12", "plus", "40", deskOf(5, "40", "2", "12")},
		{7, "16", "10", "16", "times", "160", deskOf(7, "160", "10", "16")},
		{3, "100", "11", "10", "divide", "12", deskOf(3, "12", "11", "10")},
		{3, "100", "11", "10", "rest", "1", deskOf(3, "1", "11", "10")},
		{7, "60", "500", "10", "gcd", "10", deskOf(7, "10", "500", "10")},
		{7, "60", "500", "11", "show", "60", deskOf(7, "60", "500", "11")},
		{7, "60", "500", "11", "other", "500", deskOf(7, "60", "500", "11")},
		{7, "60", "500", "11", "modulus", "11", deskOf(7, "60", "500", "11")},
		{2, "1011", "1", "111", "irreducible", "yes", deskOf(2, "1011", "1", "111")},
		{2, "1010", "1", "111", "irreducible", "no", deskOf(2, "1010", "1", "111")},
		{5, "0", "1", "11", "irreducible", "no", deskOf(5, "0", "1", "11")},
		{2, "10100", "1", "111", "factors", "10^2 11^2", deskOf(2, "10100", "1", "111")},
		{3, "2", "1", "10", "factors", "none", deskOf(3, "2", "1", "10")},
		{7, "6010", "1", "10", "factors", "10^1 11^1 16^1", deskOf(7, "6010", "1", "10")},
		{7, "6050", "1", "10", "factors", "10^1 102^1", deskOf(7, "6050", "1", "10")},
		{2, "10", "0", "111", "inverse", "11", deskOf(2, "11", "0", "111")},
		{7, "3", "0", "10", "inverse", "5", deskOf(7, "5", "0", "10")},
		{2, "10", "0", "111", "order", "3", deskOf(2, "10", "0", "111")},
		{7, "3", "0", "10", "order", "6", deskOf(7, "3", "0", "10")},
		{2, "1", "0", "111", "primitive", "10", deskOf(2, "10", "0", "111")},
		{7, "0", "0", "10", "primitive", "3", deskOf(7, "3", "0", "10")},
		{3, "10", "0", "11", "symbol", "2", deskOf(3, "10", "0", "11")},
		{3, "110", "0", "11", "symbol", "0", deskOf(3, "110", "0", "11")},
		{2, "11", "0", "10", "action", "11 1", deskOf(2, "11", "0", "10")},
		{2, "0", "0", "10", "action", "none", deskOf(2, "0", "0", "10")},
		{2, "10", "1", "111", "act", "11", deskOf(2, "10", "11", "111")},
		{2, "10", "1", "111", "annihilator", "10", deskOf(2, "10", "1", "111")},
		{2, "0", "10", "111", "annihilator", "1", deskOf(2, "0", "10", "111")},
		{2, "0", "0", "111", "exponent", "110", deskOf(2, "0", "0", "111")},
		{3, "10", "1", "101", "exponent", "100", deskOf(3, "10", "1", "101")},
		{2, "10", "1", "111", "torsion", "1", deskOf(2, "10", "1", "111")},
		{2, "0", "1", "111", "torsion", "2", deskOf(2, "0", "1", "111")},
		{2, "1", "10", "111", "torsion", "0", deskOf(2, "1", "10", "111")},
		{2, "1", "10", "111", "bracket 2", "10010", deskOf(2, "10010", "10", "111")},
		{5, "1", "10", "14", "bracket 1", "100040", deskOf(5, "100040", "10", "14")},
		{2, "1", "10", "111", "drinfeld", "11 111", deskOf(2, "1", "10", "111")},
		{2, "10", "1", "111", "drinfeld", "0 111", deskOf(2, "10", "1", "111")},
		{2, "0", "11", "10", "sum 1 1", "1", deskOf(2, "1", "11", "10")},
		{3, "0", "11", "10", "sum 1 5", "2010", deskOf(3, "2010", "11", "10")},
		{3, "0", "11", "10", "sum 0 5", "1", deskOf(3, "1", "11", "10")},
		{3, "0", "11", "10", "sum 1 0", "0", deskOf(3, "0", "11", "10")},
		{3, "0", "11", "10", "zeta 5", "2011", deskOf(3, "2011", "11", "10")},
		{3, "1", "11", "10", "zeta 4", "0", deskOf(3, "0", "11", "10")},
		{3, "1", "11", "10", "zeta 0", "1", deskOf(3, "1", "11", "10")},
		{7, "1", "11", "1001", "lpoly", "1 -4 7", deskOf(7, "1", "11", "1001")},
		{3, "10", "11", "10", "lpoly", "1", deskOf(3, "10", "11", "10")},
		{2, "1101", "10", "10", "fraction", "110 10", deskOf(2, "1101", "10", "10")},
		{3, "10", "101", "10", "fraction", "0 10 10", deskOf(3, "10", "101", "10")},
		{3, "0", "2", "10", "fraction", "0", deskOf(3, "0", "2", "10")},
		{2, "1", "11", "10", "digits 3", "1 1 1", deskOf(2, "1", "11", "10")},
		{5, "1", "13", "10", "digits 5", "1 2 4 3 1", deskOf(5, "1", "13", "10")},
		{5, "1", "13", "10", "digits 0", "none", deskOf(5, "1", "13", "10")},
		{3, "101", "0", "10", "root 5", "2 0 1 0 1", deskOf(3, "101", "0", "10")},
		{3, "101", "0", "10", "root 0", "none", deskOf(3, "101", "0", "10")},
		{7, "1", "0", "10", "reset", "ok", deskOf(3, "10", "1", "101")},
		{2, "1", "0", "10", "reset", "ok", deskOf(3, "10", "1", "101")},
	} {
		expectLine(t, deskOf(c.p, c.first, c.second, c.mod), c.line, c.after, c.output)
	}
}

func TestExampleOfChapter11(t *testing.T) {
	expectLine(t, impl.NewDesk(), "exponent", impl.NewDesk(), "100")
}

// The greatest texts that a line takes and puts out.
func TestGreatestTexts(t *testing.T) {
	for _, p := range primes {
		d := easyDesk(p)
		text := strings.Repeat(fmt.Sprint(p-1), 64)
		after := d
		after.First = full(p, 63)
		expectLine(t, d, "first "+text, after, text)
		after.Second = full(p, 63)
		expectLine(t, after, "second "+text, after, text)
		expectLine(t, after, "swap", after, text)
		expectWrong(t, d, "first "+text+"0")
		expectWrong(t, d, "second "+text+"0")
		expectWrong(t, d, "mod "+text)
		great := "1" + text[:impl.MaxModulus]
		after.Mod = poly(great)
		expectLine(t, after, "mod "+great, after, great)
		expectWrong(t, after, "mod "+great+"0")
	}
}
