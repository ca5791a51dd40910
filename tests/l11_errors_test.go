package tests

import (
	"fmt"
	"slices"
	"strings"
	"testing"

	"loop.example/g01245/impl"
)

// Each command with a word too few and with one too many, which may be empty.
func TestWordsTooFewAndTooMany(t *testing.T) {
	for _, p := range primes {
		d := easyDesk(p)
		for _, c := range commands() {
			line, executed := goodLine(p, c)
			if _, output := impl.RunLine(d, line); (output != "error") != executed {
				t.Errorf("%d: %q has the output %q", p, line, output)
			}
			for _, superfluous := range []string{"", "1", "11", "x", c.name, " ", " 1", "1 ", "1 1"} {
				expectWrong(t, d, line+" "+superfluous)
			}
			for _, wrong := range []string{" " + line, "  " + line, line + "  ", " " + line + " ", "1 " + line, "x " + line} {
				expectWrong(t, d, wrong)
			}
			if last := strings.LastIndex(line, " "); last > 0 {
				expectWrong(t, d, line[:last])
				expectWrong(t, d, line[:last+1])
				expectWrong(t, d, strings.Replace(line, " ", "  ", 1))
				expectWrong(t, d, line[:last]+" "+line[last:])
				expectWrong(t, d, strings.ReplaceAll(line, " ", "\t"))
				expectWrong(t, d, strings.ReplaceAll(line, " ", ""))
			}
			expectWrong(t, d, line+strings.Repeat(" ", 100000))
			expectWrong(t, d, line+strings.Repeat(" 1", 100000))
		}
	}
}

// A line has no other signs around it that are left out.
func TestOtherSignsInLines(t *testing.T) {
	for _, p := range primes {
		d := easyDesk(p)
		for _, c := range commands() {
			line, _ := goodLine(p, c)
			for _, sign := range []string{"\n", "\r", "\t", "\x00", ".", ";", "\u00a0", "\xff"} {
				expectWrong(t, d, line+sign)
				expectWrong(t, d, sign+line)
				expectWrong(t, d, c.name+sign)
				expectWrong(t, d, c.name+sign+"1")
				expectWrong(t, d, c.name+sign+" 1")
				expectWrong(t, d, c.name+" "+sign+"1")
				expectWrong(t, d, c.name+" 1"+sign)
			}
		}
	}
}

func TestCommandsThatDoNotExist(t *testing.T) {
	for _, p := range primes {
		d := easyDesk(p)
		for _, c := range commands() {
			line, _ := goodLine(p, c)
			behind := strings.TrimPrefix(line, c.name)
			for _, name := range []string{
				strings.ToUpper(c.name), strings.ToUpper(c.name[:1]) + c.name[1:], c.name[1:], c.name[:len(c.name)-1], c.name + "s",
				c.name + c.name, "x" + c.name,
			} {
				expectWrong(t, d, name)
				expectWrong(t, d, name+behind)
			}
		}
		for _, line := range []string{
			"", " ", "  ", "   ", "    ", "fly", "fly 1", "fly 1 1", "fly 1 1 1", "help", "error", "none", "ok", "1", "11", "0",
			"1 1", "1 1 1", "A", "B", "M", "prime N", "first TEXT", "sum N K", "\n", "\x00", "\u0440rime 5",
		} {
			expectWrong(t, d, line)
		}
	}
}

// wordsThatAreNoNumbers are no numbers of a line, though many of them become one if they are read
// with less care.
var wordsThatAreNoNumbers = []string{
	"", "00", "01", "02", "001", "0000000001", "000000001", "+0", "+1", "-0", "-1", "-2", "--1", "1.0", "1.", ".1", "1e0", "1e1",
	"0x1", "0b1", "0o1", "1_0", "_1", "x", "x1", "1x", "one", "1,", "1/1", "\u0661", "\uff11", "1\u0000", "1\n", "1\r", "\t1",
	"1000000000", "1000000001", "9999999999", "0999999999", "4294967297", "18446744073709551617",
	"1" + strings.Repeat("0", 80), strings.Repeat("0", 30) + "1", strings.Repeat("9", 100000),
}

func TestWordsThatAreNoNumbers(t *testing.T) {
	for _, p := range primes {
		for _, d := range []impl.Desk{easyDesk(p), deskOf(p, "100", "11", "101")} {
			for _, word := range wordsThatAreNoNumbers {
				for _, name := range []string{"prime", "bracket", "zeta", "digits", "root"} {
					expectWrong(t, d, name+" "+word)
				}
				for _, other := range []string{"0", "1", "2", word} {
					expectWrong(t, d, "sum "+word+" "+other)
					expectWrong(t, d, "sum "+other+" "+word)
				}
			}
		}
	}
}

// 0, the ends of the ranges of functions, and numbers with many digits, which are out of all of them.
func TestNumbersOfLines(t *testing.T) {
	for _, p := range primes {
		d := easyDesk(p)
		for _, n := range []string{
			"0", "1", "6", "7", "8", "9", "39", "40", "41", "296", "297", "65537", "65538", "16777217", "99999999", "100000000",
			"268435457", "536870913", "999999999",
		} {
			for _, name := range []string{"prime", "bracket", "zeta", "digits", "root"} {
				after, output := lineBy(d, name+" "+n)
				expectLine(t, d, name+" "+n, after, output)
				if len(n) > 2 && output != "error" {
					t.Errorf("%s %s is executed", name, n)
				}
			}
			for _, other := range []string{"0", "1", "8", "40"} {
				for _, line := range []string{"sum " + n + " " + other, "sum " + other + " " + n} {
					after, output := lineBy(d, line)
					expectLine(t, d, line, after, output)
				}
			}
		}
		expectWrong(t, d, "bracket 0")
		expectWrong(t, d, "bracket 7")
		expectWrong(t, d, "zeta 41")
		expectWrong(t, d, "digits 41")
		expectWrong(t, d, "root 41")
		expectWrong(t, d, "sum 9 0")
		expectWrong(t, d, "sum 0 41")
		expectLine(t, d, "digits 40", d, strings.Repeat("0 ", 39)+"0")
		expectLine(t, d, "digits 0", d, "none")
	}
}

func TestTextsThatAreNoPolys(t *testing.T) {
	for _, p := range primes {
		texts := []string{
			"", " ", "  ", "\t", "x", "T", "T+1", "1+T", "-1", "+1", "-0", "+0", "00", "01", "001", "0010", "1 0", "1 1", " 1", "1 ",
			" 10", "10 ", "  10", "10  ", " 10 ", "1x", "x1", "1.", ".1", "1,0", "0x1", "\u0661", "\uff11", "1\n", "\n1", "10\r",
			"10\x00", "1/", "1:", "none", "1" + strings.Repeat("0", 64), "0" + strings.Repeat("1", 63), strings.Repeat("1", 65),
			strings.Repeat("1", 100000),
		}
		for digit := p; digit < 10; digit++ {
			texts = append(texts, fmt.Sprint(digit), fmt.Sprint("1", digit), fmt.Sprint(digit, "1"), fmt.Sprint("1", digit, "0"))
		}
		for _, d := range []impl.Desk{easyDesk(p), deskOf(p, "101", "110", "111")} {
			for _, text := range texts {
				for _, name := range []string{"first", "second", "mod"} {
					expectWrong(t, d, name+" "+text)
				}
			}
		}
	}
}

// Texts are read for the prime of the desk, also right behind its change.
func TestTextsForThePrimeOfTheDesk(t *testing.T) {
	for _, p := range primes {
		for _, q := range primes {
			after, _ := impl.RunLine(easyDesk(p), fmt.Sprint("prime ", q))
			for c := int64(1); c < 10; c++ {
				for _, name := range []string{"first", "second", "mod"} {
					line := fmt.Sprint(name, " 1", c)
					if c >= q {
						expectWrong(t, after, line)
					} else if _, output := impl.RunLine(after, line); output != fmt.Sprint("1", c) {
						t.Errorf("%s: %q has the output %q", shown(after), line, output)
					}
				}
			}
		}
	}
}

func TestPrimesOfDesks(t *testing.T) {
	s := &sampler{state: 610}
	for _, p := range primes {
		for _, d := range s.desks(t, p) {
			for _, n := range []int64{0, 1, 4, 6, 8, 9, 11, 13, 49, 257, 258, 65539, 999999999} {
				expectWrong(t, d, fmt.Sprint("prime ", n))
			}
			for _, q := range primes {
				expectLine(t, d, fmt.Sprint("prime ", q), deskOf(q, "10", "1", "10"), fmt.Sprint(q))
			}
			expectLine(t, d, "reset", impl.NewDesk(), "ok")
		}
	}
}

func TestTextsThatAreNoModuli(t *testing.T) {
	s := &sampler{state: 611}
	for _, p := range primes {
		for _, d := range []impl.Desk{easyDesk(p), deskOf(p, "11", "10", "1101")} {
			for _, text := range []string{"0", "1", "1000000", "1000001", "1" + strings.Repeat("0", 63)} {
				expectWrong(t, d, "mod "+text)
			}
			for range 50 {
				expectWrong(t, d, "mod "+textOf(s.poly(p, 6+int(s.below(58)))))
			}
			for c := byte(2); c < byte(p); c++ {
				expectWrong(t, d, fmt.Sprint("mod ", c))
				for n := 1; n <= impl.MaxModulus; n++ {
					m := s.monic(p, n)
					m[n] = c
					expectWrong(t, d, "mod "+textOf(m))
				}
			}
			for n := 1; n <= impl.MaxModulus; n++ {
				for _, m := range []impl.Poly{monomial(n), s.monic(p, n)} {
					after := d
					after.Mod = m
					expectLine(t, d, "mod "+textOf(m), after, textOf(m))
				}
			}
		}
	}
}

// refusal is a desk with the lines whose functions return another code than ErrNone.
type refusal struct {
	first, second, mod impl.Poly
	lines              []string
}

func refusals(t *testing.T, s *sampler, p int64) []refusal {
	t.Helper()
	ones, x, great := impl.Poly{1}, monomial(1), monomial(63)
	two, five := s.irreducible(p, 2), s.irreducible(p, 5)
	split := product(t, p, x, impl.Poly{1, 1})
	list := []refusal{
		{x, impl.Poly{}, x, []string{"divide", "rest", "fraction", "digits 1", "digits 0", "inverse", "order", "drinfeld"}},
		{impl.Poly{}, impl.Poly{}, x, []string{"gcd", "divide", "rest", "fraction", "digits 1", "factors", "inverse", "order", "root 1", "drinfeld"}},
		{impl.Poly{}, x, x, []string{"factors", "inverse", "order", "root 0", "root 1"}},
		{great, x, x, []string{"times", "irreducible", "factors", "action", "root 1", "digits 1", "drinfeld", "inverse", "order"}},
		{x, great, x, []string{"times", "digits 1", "drinfeld"}},
		{monomial(32), full(p, 32), x, []string{"times"}},
		{great, great, x, []string{"times", "digits 0"}},
		{monomial(13), ones, x, []string{"irreducible", "factors", "root 1", "action"}},
		{monomial(7), ones, x, []string{"action", "root 1"}},
		{split, ones, split, []string{"inverse", "order", "primitive", "drinfeld"}},
		{ones, ones, split, []string{"primitive", "drinfeld"}},
		{x, ones, split, []string{"inverse", "order"}},
		{impl.Poly{1, 1}, ones, split, []string{"inverse", "order"}},
		{product(t, p, two, x), ones, two, []string{"inverse", "order", "drinfeld"}},
		{x, product(t, p, two, x), two, []string{"drinfeld"}},
		{x, two, two, []string{"drinfeld"}},
		{two, x, two, []string{"drinfeld"}},
		{x, impl.Poly{}, two, []string{"drinfeld"}},
		{x, ones, five, []string{"drinfeld"}},
		{x, ones, product(t, p, two, two), []string{"drinfeld", "primitive"}},
		{x, ones, x, []string{"root 1", "root 0", "bracket 0", "bracket 7", "zeta 41", "sum 9 1", "sum 1 41", "sum 8 8", "sum 2 32"}},
	}
	if p > 2 {
		list = append(list, refusal{impl.Poly{0, 0, byte(p - 1)}, ones, x, []string{"root 1"}})
	} else {
		list = append(list, refusal{ones, ones, x, []string{"root 0", "root 1", "lpoly", "bracket 6"}})
		list = append(list, refusal{monomial(4), ones, five, []string{"root 1", "lpoly"}})
	}
	if p > 3 {
		list = append(list, refusal{ones, ones, five, []string{"lpoly"}}, refusal{ones, ones, monomial(5), []string{"lpoly"}})
		list = append(list, refusal{monomial(4), ones, x, []string{"action", "bracket 3", "sum 4 0"}})
	}
	return list
}

// Each case in which a function returns another code, and none of these lines changes anything.
func TestFunctionsThatRefuse(t *testing.T) {
	s := &sampler{state: 612}
	for _, p := range primes {
		var refused []string
		for _, c := range refusals(t, s, p) {
			d := impl.Desk{Prime: p, First: c.first, Second: c.second, Mod: c.mod}
			for _, line := range c.lines {
				if _, output := lineBy(d, line); output != "error" {
					t.Fatalf("%s: the test's own %q is no refusal", shown(d), line)
				}
				expectWrong(t, d, line)
				refused = append(refused, strings.Fields(line)[0])
			}
		}
		for _, name := range strings.Fields("times divide rest gcd irreducible factors inverse order primitive action bracket " +
			"drinfeld sum zeta fraction digits root") {
			if !slices.Contains(refused, name) {
				t.Errorf("%d: %q has no case", p, name)
			}
		}
	}
}

// What is next to the refusals is executed.
func TestFunctionsNextToRefusals(t *testing.T) {
	for _, p := range primes {
		for _, c := range []struct {
			first, second int
			lines         []string
		}{
			{31, 32, []string{"times", "digits 40", "gcd", "fraction"}},
			{62, 62, []string{"digits 40"}},
			{63, 63, []string{"plus", "divide", "rest", "gcd", "fraction", "swap", "torsion", "symbol", "act", "annihilator"}},
			{12, 0, []string{"irreducible", "factors"}},
			{2, 0, []string{"action"}},
		} {
			d := impl.Desk{Prime: p, First: full(p, c.first), Second: full(p, c.second), Mod: monomial(5)}
			for _, line := range c.lines {
				after, output := lineBy(d, line)
				expectLine(t, d, line, after, output)
				if output == "error" {
					t.Errorf("%s: %q is refused", shown(d), line)
				}
			}
		}
	}
}

// noDesks are each no desk for one reason.
func noDesks(d impl.Desk) []impl.Desk {
	var list []impl.Desk
	for _, p := range notPrimes {
		other := d
		other.Prime = p
		list = append(list, other)
	}
	for _, at := range []int{0, 1, 5, 62, 63} {
		for _, c := range []byte{byte(d.Prime), byte(d.Prime + 1), 255} {
			first, second := d, d
			first.First[at] = c
			second.Second[at] = c
			list = append(list, first, second)
		}
	}
	// A leading coefficient of 1 stays in front of what is no number for the prime.
	for at := range degreeOf(d.Mod) {
		for _, c := range []byte{byte(d.Prime), byte(d.Prime + 1), 255} {
			mod := d
			mod.Mod[at] = c
			list = append(list, mod)
		}
	}
	for _, m := range append(noModuli(d.Prime), impl.Poly{}, impl.Poly{1}, monomial(6), monomial(63)) {
		mod := d
		mod.Mod = m
		list = append(list, mod)
	}
	return append(list, impl.Desk{})
}

func TestWhatIsNoDesk(t *testing.T) {
	lines := []string{"", " ", "fly", "first x", "prime 4", "first  1"}
	for _, p := range primes {
		for _, d := range []impl.Desk{easyDesk(p), deskOf(p, "110", "1", "1101"), deskOf(p, "0", "0", "100000")} {
			for _, wrong := range noDesks(d) {
				if impl.IsDesk(wrong) {
					t.Errorf("%s is a desk", shown(wrong))
				}
				for _, line := range lines {
					expectLine(t, wrong, line, impl.Desk{}, "")
				}
				for _, c := range commands() {
					line, _ := goodLine(p, c)
					expectLine(t, wrong, line, impl.Desk{}, "")
				}
			}
		}
	}
}
