package tests

import (
	"fmt"
	"strings"
	"testing"

	"loop.example/g01245/impl"
)

// expectText checks Console and DeskAfter for a text within the limits.
func expectText(t *testing.T, text, outputs string, after impl.Desk) {
	t.Helper()
	if got := impl.Console(text); got != outputs {
		t.Errorf("Console(%q) = %q, want %q", text, got, outputs)
	}
	if got, accepted := impl.DeskAfter(text); !accepted || got != after {
		t.Errorf("DeskAfter(%q) = %s, %v, want %s", text, shown(got), accepted, shown(after))
	}
}

// expectBeyond checks Console and DeskAfter for a text beyond the limits.
func expectBeyond(t *testing.T, text string) {
	t.Helper()
	if got := impl.Console(text); got != "" {
		t.Errorf("Console of %d bytes, with %d newlines, is %q", len(text), strings.Count(text, "\n"), got)
	}
	if got, accepted := impl.DeskAfter(text); accepted || got != (impl.Desk{}) {
		t.Errorf("DeskAfter of %d bytes, with %d newlines, is %s, %v", len(text), strings.Count(text, "\n"), shown(got), accepted)
	}
}

// stepByStep returns the outputs of lines, and the desk after them, by RunLine alone.
func stepByStep(lines []string) (string, impl.Desk) {
	d, outputs := impl.NewDesk(), ""
	for _, line := range lines {
		if line != "" {
			var output string
			d, output = impl.RunLine(d, line)
			outputs += output + "\n"
		}
	}
	return outputs, d
}

// expectLines checks a text of lines, with and without a newline behind the last one, which must not be
// empty in the second case.
func expectLines(t *testing.T, lines []string) {
	t.Helper()
	outputs, after := stepByStep(lines)
	text := strings.Join(lines, "\n")
	if len(text) < impl.MaxConsole && len(lines) > 0 {
		expectText(t, text+"\n", outputs, after)
	}
	if len(lines) > 0 && lines[len(lines)-1] != "" {
		expectText(t, text, outputs, after)
	}
}

// anyLine returns a line for any command, or one that is wrong.
func (s *sampler) anyLine(p int64) string {
	all := commands()
	c := all[s.below(int64(len(all)))]
	switch s.below(12) {
	case 0:
		return ""
	case 1:
		return []string{"fly", " ", "show ", " show", "first 9", "sum 1", "prime 4", "mod 1", "Show", "reset\r"}[s.below(10)]
	case 2, 3:
		name := []string{"first ", "second "}[s.below(2)]
		return name + textOf(s.upTo(p, 8))
	}
	return s.line(p, c)
}

func TestConsoleLineByLine(t *testing.T) {
	s := &sampler{state: 620}
	for round := range 400 {
		lines := []string{fmt.Sprint("prime ", primes[round%4])}
		for range s.below(impl.MaxLines) {
			lines = append(lines, s.anyLine(primes[round%4]))
		}
		expectLines(t, lines)
		expectLines(t, lines[1:])
	}
}

func TestConsolesByHand(t *testing.T) {
	for _, c := range []struct {
		text, outputs string
		after         impl.Desk
	}{
		{"", "", impl.NewDesk()},
		{"\n", "", impl.NewDesk()},
		{"\n\n\n", "", impl.NewDesk()},
		{"show", "10\n", impl.NewDesk()},
		{"show\n", "10\n", impl.NewDesk()},
		{"\n\nshow\nmodulus", "10\n101\n", impl.NewDesk()},
		{"show\n\n\nmodulus\n", "10\n101\n", impl.NewDesk()},
		{"show\nmodulus\n\n\n", "10\n101\n", impl.NewDesk()},
		{"\nswap\n\nshow\n\nother\n", "1\n1\n10\n", deskOf(3, "1", "10", "101")},
		{" ", "error\n", impl.NewDesk()},
		{" \n", "error\n", impl.NewDesk()},
		{"show\r\nshow\r\n", "error\nerror\n", impl.NewDesk()},
		{"fly\nplus\nfly\nplus", "error\n11\nerror\n12\n", deskOf(3, "12", "1", "101")},
		{"plus\nreset\nplus\n", "11\nok\n11\n", deskOf(3, "11", "1", "101")},
		{"prime 7\nmod 1001\nlpoly\nfirst 6\nfactors\n", "7\n1001\n1 -4 7\n6\nnone\n", deskOf(7, "6", "1", "1001")},
		{"prime 2\nmod 111\nact\nact\n", "2\n111\n11\n11\n", deskOf(2, "10", "11", "111")},
		{"first 101\nsecond 0\ndivide\nrest\ngcd\nroot 5", "101\n0\nerror\nerror\n101\n2 0 1 0 1\n", deskOf(3, "101", "0", "101")},
	} {
		expectText(t, c.text, c.outputs, c.after)
	}
}

// Texts of MaxLines lines, and of one more: lines that are empty count as well.
func TestNumbersOfLinesInTexts(t *testing.T) {
	after := func(n int) impl.Desk {
		d := impl.NewDesk()
		d.First[0] = byte(n % 3)
		return d
	}
	for n := range impl.MaxLines + 1 {
		outputs := ""
		for k := range n {
			outputs += textOf(after(k+1).First) + "\n"
		}
		text := strings.Repeat("plus\n", n)
		expectText(t, text, outputs, after(n))
		expectText(t, strings.TrimSuffix(text, "\n"), outputs, after(n))
		// Empty lines ahead, in the middle and behind, up to the limit.
		empty := strings.Repeat("\n", impl.MaxLines-n)
		expectText(t, empty+text, outputs, after(n))
		expectText(t, text+empty, outputs, after(n))
		expectText(t, strings.Replace(text, "\n", "\n"+empty, 1), outputs, after(n))
		expectBeyond(t, "\n"+empty+text)
		expectBeyond(t, text+empty+"\n")
		expectBeyond(t, text+empty+"x")
		expectBeyond(t, text+empty+"plus")
		expectBeyond(t, text+empty+"plus\n")
		expectBeyond(t, empty+text+" ")
		if n > 0 {
			expectText(t, strings.TrimSuffix(empty+text, "\n"), outputs, after(n))
			expectBeyond(t, "\n"+strings.TrimSuffix(empty+text, "\n"))
			expectBeyond(t, strings.Replace(text, "\n", "\n\n"+empty, 1))
		}
	}
	for n := impl.MaxLines + 1; n < 80; n++ {
		expectBeyond(t, strings.Repeat("\n", n))
		expectBeyond(t, strings.Repeat("plus\n", n))
		expectBeyond(t, strings.Repeat("plus\n", n-1)+"plus")
	}
	expectBeyond(t, strings.Repeat("\n", impl.MaxConsole))
}

// Texts of MaxConsole bytes, and of one more.
func TestLengthsOfTexts(t *testing.T) {
	long := func(n int) string { return strings.Repeat("x", n) }
	d := impl.NewDesk()
	expectText(t, long(impl.MaxConsole), "error\n", d)
	expectText(t, long(impl.MaxConsole-1)+"\n", "error\n", d)
	expectText(t, long(impl.MaxConsole-5)+"\nshow", "error\n10\n", d)
	expectText(t, "show\n"+long(impl.MaxConsole-5), "10\nerror\n", d)
	expectText(t, strings.Repeat("\n", 39)+long(impl.MaxConsole-39), "error\n", d)
	expectBeyond(t, long(impl.MaxConsole+1))
	expectBeyond(t, long(impl.MaxConsole)+"\n")
	expectBeyond(t, "\n"+long(impl.MaxConsole))
	expectBeyond(t, long(impl.MaxConsole-4)+"\nshow")
	expectBeyond(t, "show\n"+long(impl.MaxConsole-4))
	expectBeyond(t, "show\n"+long(impl.MaxConsole-5)+"\n")
	expectBeyond(t, long(1<<20))
	expectBeyond(t, strings.Repeat("\n", 1<<20))
	// Bytes are counted, and not signs.
	expectText(t, strings.Repeat("\u00e9", impl.MaxConsole/2), "error\n", d)
	expectBeyond(t, strings.Repeat("\u00e9", impl.MaxConsole/2+1))
	// Blanks are counted as well, and a line of them is not empty.
	expectText(t, strings.Repeat(" ", impl.MaxConsole), "error\n", d)
	expectBeyond(t, strings.Repeat(" ", impl.MaxConsole+1))
}

// Both limits at the same time, with lines that change the desk.
func TestGreatestConsole(t *testing.T) {
	lines := []string{"prime 7"}
	for len(lines) < impl.MaxLines {
		text := textOf(full(7, 63))
		lines = append(lines, []string{"first ", "second "}[len(lines)%2]+text)
	}
	used := len(strings.Join(lines, "\n"))
	lines[20] = strings.Repeat("y", len(lines[20])+impl.MaxConsole-used)
	outputs, after := stepByStep(lines)
	text := strings.Join(lines, "\n")
	if len(text) != impl.MaxConsole || after.First != full(7, 63) || after.Second != full(7, 63) {
		t.Fatalf("the test's own text has %d bytes, and leads to %s", len(text), shown(after))
	}
	expectText(t, text, outputs, after)
	expectBeyond(t, text+"\n")
	expectBeyond(t, "y"+text)
}
