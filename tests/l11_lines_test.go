package tests

import (
	"fmt"
	"reflect"
	"slices"
	"strings"
	"testing"

	"loop.example/g01262/impl"
)

// TestRightLines looks whether the lines from which wrong ones are made have no errors, one for each command.
func TestRightLines(t *testing.T) {
	for at, line := range rightLines {
		wantSame(t, "the command of a right line", strings.Split(line, " ")[0], lineWays[at].commandOf())
		_, output := run(t, deskFor(line), line)
		if output == "error" {
			t.Errorf("%q has the output error", line)
		}
	}
	wantSame(t, "the number of right lines", len(rightLines), len(lineWays))
	wantSame(t, "the number of commands", len(lineWays), 31)
}

// TestWrongShapesOfLines has blanks at the beginning, at the end and two in a row, words too many and missing, other
// bytes than blanks, and other commands, on desks on which the line itself has no error, and on others.
func TestWrongShapesOfLines(t *testing.T) {
	desks := desksForCommands()
	for _, line := range rightLines {
		for _, wrong := range wrongShapes(line) {
			for _, d := range append(slices.Clone(desks), deskFor(line)) {
				wantWrongLine(t, d, wrong)
			}
		}
	}
}

// TestBytesInLines puts each byte in front of, into and behind right lines. Only numbers and names can stay what they
// are, or become others.
func TestBytesInLines(t *testing.T) {
	for _, line := range rightLines {
		d := deskFor(line)
		for number := range 256 {
			part := string([]byte{byte(number)})
			isDigit := '0' <= number && number <= '9'
			for at := range len(line) + 1 {
				for _, other := range []string{line[:at] + part + line[at:], line[:at] + part + line[min(at+1, len(line)):]} {
					_, output := run(t, d, other)
					if output != "error" && other != line && !isDigit && !strings.ContainsAny(part, "*+:;x") {
						t.Fatalf("RunLine of %q has the output %q", other, output)
					}
				}
			}
		}
	}
}

func TestLinesOfOtherCommands(t *testing.T) {
	for _, d := range append(desksForCommands(), impl.Desk{First: strassen(2), Second: strassen(2)}) {
		for _, line := range otherLines {
			wantWrongLine(t, d, line)
		}
		for _, command := range commandNames() {
			for _, line := range []string{strings.ToUpper(command), strings.ToUpper(command[:1]) + command[1:], command[:len(command)-1], command[1:], command + command, "\ufeff" + command} {
				wantWrongLine(t, d, line)
				wantWrongLine(t, d, line+" 2 2 2 2")
				wantWrongLine(t, d, line+" 1")
			}
		}
	}
}

// TestWrongNumbers puts what is no number at the place of each number of right lines.
func TestWrongNumbers(t *testing.T) {
	tried := 0
	for at, line := range rightLines {
		for i, part := range strings.Fields(lineWays[at].pattern) {
			if part != "N" {
				continue
			}
			for _, wrong := range wrongNumbers {
				words := strings.Split(line, " ")
				words[i] = wrong
				wantWrongLine(t, deskFor(line), strings.Join(words, " "))
				tried++
			}
		}
	}
	wantSame(t, "lines with wrong numbers", tried, 17*len(wrongNumbers))
}

// TestNumbersOfManyDigits has ten digits where they can be right, and numbers that are in range in their lowest bytes.
func TestNumbersOfManyDigits(t *testing.T) {
	d := expectNew()
	wantLine(t, d, "walk 2147483646 0", expectText(d.First))
	wantLine(t, d, "walk 1000000000 1", expectText(expectStroll(d.First, 1000000000, 1)))
	for _, line := range []string{
		"walk 02147483646 0", "walk 21474836460 0", "walk 12147483646 0", "walk 2147483647 0", "walk 6442450942 0", "walk 9999999999 0",
		"walk 1 4294967296", "walk 1 9999999999", "walk 4294967297 1", "without 4294967296", "without 9999999999", "repeat 4294967297", "repeat 256",
		"gain 4294967304", "gain 65544", "restrict 4294967297 1 1", "restrict 1 257 1", "restrict 1 1 4294967297", "standard 4294967298 1 1 1",
		"standard 258 1 1 1", "standard 2 4294967297 1 1", "standard 2 1 257 1", "standard 2 1 1 257", "small 4294967298 1 1 1", "small 2 1 1 4294967297",
		"known strassen 4294967298", "known strassen 258", "walk 18446744073709551617 1", "without 18446744073709551616", "repeat 18446744073709551617",
	} {
		wantWrongLine(t, d, line)
	}
}

// TestZeros has the number 0 where it is right, and where it is not.
func TestZeros(t *testing.T) {
	d := expectNew()
	for _, line := range []string{"without 0", "repeat 0", "walk 1 0"} {
		if _, output := run(t, d, line); output == "error" {
			t.Errorf("%q has the output error", line)
		}
	}
	for _, line := range []string{
		"walk 0 0", "walk 0 1", "gain 0", "known strassen 0", "standard 0 1 1 1", "standard 2 0 1 1", "standard 2 1 0 1", "standard 2 1 1 0",
		"small 0 1 1 1", "small 2 0 1 1", "restrict 0 1 1", "restrict 1 0 1", "restrict 1 1 0", "without 00", "repeat 00", "walk 1 00",
	} {
		wantWrongLine(t, d, line)
	}
}

// TestTextsInLines has texts that are empty, that are missing, and that have blanks and other bytes in them.
func TestTextsInLines(t *testing.T) {
	for _, d := range desksForCommands() {
		for _, command := range []string{"first", "second"} {
			for _, rest := range []string{
				"", " ", "  ", " ;", " 2:1x1x1", " 2:1x1x1; ", "  2:1x1x1;", " 2:1x1x1; 1*1*1", " 2:1x1x1;1*1*1 1*1*1", " 2:1x1x1;1*1*1 +1*1*1", " 2 :1x1x1;",
				"\t2:1x1x1;", " \t2:1x1x1;", " 2:1x1x1;\t", " 2:1x1x1;\n", " 2:1x1x1;\r", " 2:1x1x1;\x00", " \x002:1x1x1;", " 2:1x1x1;\xff", " \ufeff2:1x1x1;",
				" 2:1x1x1;\nshow", " 2:1x1x1; 2:1x1x1;", "2:1x1x1;", " X", " Y", " first 2:1x1x1;", " 4:1x1x1;", " 2:1x1x4;", " 2:1x1x1;1*1*2",
				" 2:1x1x1;" + strings.Repeat("1*1*1+", impl.MaxProducts) + "1*1*1",
			} {
				wantWrongLine(t, d, command+rest)
			}
			for _, text := range []string{"2:1x1x1;", "5:3x3x3;", "2:1x1x1;" + strings.Repeat("1*1*1+", impl.MaxProducts-1) + "1*1*1"} {
				wantLine(t, d, command+" "+text, text)
			}
		}
	}
}

func TestTheEmptyLine(t *testing.T) {
	eachDesk(func(s *sequence, d impl.Desk) {
		wantWrongLine(t, d, "")
		wantWrongLine(t, d, " ")
	})
}

// TestLongLines has lines of many words and bytes, for which RunLine has no limits.
func TestLongLines(t *testing.T) {
	d := expectNew()
	for _, part := range []string{" ", "0", "x", "show ", " 1", "\n", "\xff", "first ", "+1*1*1", "swap\n"} {
		long := strings.Repeat(part, 100000)
		for _, line := range []string{long, "show" + long, "show " + long, "first " + long, "first 2:1x1x1;1*1*1" + long, "walk " + long, "known " + long + " 2", "without " + long} {
			wantWrongLine(t, d, line)
		}
	}
}

// deskTexts are lines, right and wrong ones, that are given to what is no desk.
var deskTexts = append(append(slices.Clone(rightLines), otherLines...), "show ", "walk 0 1", "first 2:1x1x1;1*1*2", "without 30")

// wantNoDesk tests that something is no desk, and that no line is executed on it.
func wantNoDesk(t *testing.T, what string, d impl.Desk) {
	t.Helper()
	wantSame(t, "IsDesk with "+what, impl.IsDesk(d), false)
	for _, line := range deskTexts {
		after, output := impl.RunLine(d, line)
		if !isZero(reflect.ValueOf(after)) || output != "" {
			t.Fatalf("RunLine of %q and a desk with %s = %v, %q", line, what, after, output)
		}
	}
}

// TestNoDesks has desks whose first scheme, whose second one, or both, are no schemes.
func TestNoDesks(t *testing.T) {
	wantNoDesk(t, "everything 0", impl.Desk{})
	for name, wrong := range notSchemes() {
		for _, x := range []impl.Scheme{strassen(2), frame(5, 1, 1, 1), expectStandard(3, 3, 3, 3), frame(2, 3, 3, 3)} {
			wantNoDesk(t, "a first scheme with "+name, impl.Desk{First: wrong, Second: x})
			wantNoDesk(t, "a second scheme with "+name, impl.Desk{First: x, Second: wrong})
		}
		wantNoDesk(t, "two schemes with "+name, impl.Desk{First: wrong, Second: wrong})
	}
}

// TestDesks has schemes of all kinds, also of different primes and sizes.
func TestDesks(t *testing.T) {
	eachDesk(func(s *sequence, d impl.Desk) {
		if !impl.IsDesk(d) || !impl.IsDesk(impl.Desk{First: d.Second, Second: d.First}) {
			t.Fatalf("IsDesk of %v = false", d)
		}
	})
	for at := range int64(81) {
		x, y := frame(primes[at%3], at/3%3+1, 1, at/9%3+1), frame(primes[at/27], 3, at/9%3+1, at%3+1)
		wantSame(t, fmt.Sprint("IsDesk of ", x, y), impl.IsDesk(impl.Desk{First: x, Second: y}), true)
	}
}
