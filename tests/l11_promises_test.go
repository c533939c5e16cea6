package tests

import (
	"slices"
	"strings"
	"testing"

	"loop.example/g01262/impl"
)

// Promise 11: lines lead from desks to desks, and the console joins their outputs.

// TestPromise11LinesLeadFromDesksToDesks executes a line of each command on each desk. Behind the output error the desk
// is the same as before.
func TestPromise11LinesLeadFromDesksToDesks(t *testing.T) {
	errors, others := map[string]int{}, map[string]int{}
	eachDesk(func(s *sequence, d impl.Desk) {
		if !impl.IsDesk(d) {
			t.Fatalf("IsDesk of %v = false", d)
		}
		for _, command := range commandNames() {
			after, output := run(t, d, lineFor(s, d, command))
			if !impl.IsDesk(after) || !expectScheme(after.First) || !expectScheme(after.Second) || output == "" {
				t.Fatalf("a line of %s leads from %v to %v, with the output %q", command, d, after, output)
			}
			if output != "error" {
				others[command]++
				continue
			}
			errors[command]++
			if !sameDesk(after, d) {
				t.Fatalf("a line of %s has the output error and leads from %v to %v", command, d, after)
			}
		}
	})
	for _, command := range commandNames() {
		never := strings.Contains(" swap sort turn transpose scaled merge show other products correct wrong cost needless reset ", " "+command+" ")
		if others[command] < 10 || errors[command] < 10 && !never || errors[command] > 0 && never {
			t.Errorf("%s: %d lines with the output error, and %d others", command, errors[command], others[command])
		}
	}
}

// TestPromise11WrongLinesChangeNothing has wrong lines of all kinds on desks of all kinds.
func TestPromise11WrongLinesChangeNothing(t *testing.T) {
	var lines []string
	for _, line := range rightLines {
		lines = append(lines, wrongShapes(line)...)
	}
	lines = append(lines, otherLines...)
	eachDesk(func(s *sequence, d impl.Desk) {
		for range 30 {
			wantWrongLine(t, d, oneOf(s, lines...))
		}
	})
}

// TestPromise11LinesOneAfterTheOther goes on with the desk behind each line, with drawn lines, many of them wrong.
func TestPromise11LinesOneAfterTheOther(t *testing.T) {
	s := &sequence{}
	for range 60 {
		d := someDesk(s)
		for range 60 {
			after, output := run(t, d, someLine(s, d))
			if !impl.IsDesk(after) || output == "error" && !sameDesk(after, d) {
				t.Fatalf("a line leads from %v to %v, with the output %q", d, after, output)
			}
			d = after
		}
	}
}

// someLine draws a line, one in six of them a wrong one.
func someLine(s *sequence, d impl.Desk) string {
	switch s.below(12) {
	case 0:
		return oneOf(s, otherLines...)
	case 1:
		return oneOf(s, wrongShapes(oneOf(s, rightLines...))...)
	}
	return lineFor(s, d, oneOf(s, commandNames()...))
}

// someTextLines draws lines of a text without newlines in them, some of them empty, that go on with the desk.
func someTextLines(s *sequence, count int64) []string {
	d := expectNew()
	var lines []string
	for range count {
		line := ""
		if s.below(8) > 0 {
			line = strings.ReplaceAll(someLine(s, d), "\n", "")
		}
		d, _ = expectLine(d, line)
		lines = append(lines, line)
	}
	return lines
}

// TestPromise11TheConsoleJoinsOutputs executes drawn texts. Their outputs are those of their lines, executed by RunLine
// one after the other, and the desk of DeskAfter is the one behind them.
func TestPromise11TheConsoleJoinsOutputs(t *testing.T) {
	s := &sequence{}
	refused, accepted := 0, 0
	for range 1500 {
		lines := someTextLines(s, s.below(44))
		text := strings.Join(lines, "\n") + oneOf(s, "", "\n")
		after, output, ok := runText(t, text)
		if !ok {
			refused++
			continue
		}
		accepted++
		d, outputs := impl.NewDesk(), ""
		for _, line := range lines {
			if line != "" {
				next, own := impl.RunLine(d, line)
				d, outputs = next, outputs+own+"\n"
			}
		}
		if output != outputs || !sameDesk(after, d) || !impl.IsDesk(after) {
			t.Fatalf("Console and DeskAfter of %q = %q, %v, but its lines have %q, and lead to %v", text, output, after, outputs, d)
		}
	}
	if refused < 50 || accepted < 500 {
		t.Fatalf("%d texts are refused, and %d are not", refused, accepted)
	}
}

// TestPromise11FirstLinesAlone tests that the first lines of a text have the same outputs if no others stand behind
// them.
func TestPromise11FirstLinesAlone(t *testing.T) {
	s := &sequence{}
	for range 60 {
		lines := someTextLines(s, 1+s.below(30))
		whole := impl.Console(strings.Join(lines, "\n"))
		if len(strings.Join(lines, "\n")) > impl.MaxConsole {
			continue
		}
		outputs := 0
		for count := range len(lines) + 1 {
			_, output, ok := runText(t, strings.Join(lines[:count], "\n"))
			if !ok || !strings.HasPrefix(whole, output) || strings.Count(output, "\n") != outputs {
				t.Fatalf("the first %d lines of %q have the outputs %q, but all lines have %q", count, lines, output, whole)
			}
			if count < len(lines) && lines[count] != "" {
				outputs++
			}
		}
		wantSame(t, "the outputs of all lines", impl.Console(strings.Join(lines, "\n")+"\n"), whole)
	}
}

// The main guarantee: moves keep the sums of schemes, correct schemes multiply all matrices, and programs make what the
// schemes make.

// moveOf draws a move, and returns what it makes of a scheme, or the scheme itself if the move cannot be made.
func moveOf(s *sequence, x impl.Scheme) impl.Scheme {
	count := max(int64(len(x.Products)), 1)
	which, places := s.below(3), [3]int64{x.Rows * x.Inner, x.Inner * x.Cols, x.Rows * x.Cols}
	switch s.below(7) {
	case 0:
		if flips := expectFlips(x); len(flips) > 0 {
			flip := oneOf(s, flips...)
			return orElse(x)(impl.FlipProducts(x, flip[0], flip[1], flip[2], 1+s.below(x.Prime-1)))
		}
		return x
	case 1:
		return orElse(x)(impl.ReduceScheme(x))
	case 2:
		return orElse(x)(impl.SplitProduct(x, s.below(count), which, someForm(s, x.Prime, places[which])))
	case 3:
		return orElse(x)(impl.PlusMove(x, s.below(count), s.below(count)))
	case 4:
		return orElse(x)(impl.WalkFlips(x, someNumbers(s, 10)))
	case 5:
		return orElse(x)(impl.WalkScheme(x, someSeed(s), someSteps(s)))
	}
	return orElse(x)(impl.MergeScheme(x))
}

// wantMultiplying tests that a scheme, and its programs, make of matrices what they should.
func wantMultiplying(t *testing.T, x impl.Scheme, left, right, want [][]int64) {
	t.Helper()
	made, code := impl.MakeProduct(x, left, right)
	if code != impl.ErrNone || !sameRows(made, want) {
		t.Fatalf("MakeProduct of %v, %v and %v = %v, %d, want %v", x, left, right, made, code, want)
	}
	for _, shared := range []bool{false, true} {
		ran, code := impl.RunScheme(x, shared, left, right)
		if len(x.Products) == 0 {
			wantError(t, "RunScheme without products", ran, code, impl.ErrState)
		} else if code != impl.ErrNone || !sameRows(ran, want) {
			t.Fatalf("RunScheme of %v, %v, %v and %v = %v, %d, want %v", x, shared, left, right, ran, code, want)
		}
	}
}

// TestMainGuaranteeForCorrectSchemes moves correct schemes again and again, which multiply all the while.
func TestMainGuaranteeForCorrectSchemes(t *testing.T) {
	eachCorrect(func(s *sequence, x impl.Scheme) {
		sums := expectSums(x)
		for range 20 {
			x = moveOf(s, x)
			if !impl.IsScheme(x) || !slices.Equal(expectSums(x), sums) {
				t.Fatalf("a move leads to %v, which has other sums", x)
			}
			left, right := someMatrix(s, x.Prime, x.Rows, x.Inner), someMatrix(s, x.Prime, x.Inner, x.Cols)
			want, code := impl.PlainProduct(x.Prime, left, right)
			wantCode(t, "PlainProduct", code, impl.ErrNone)
			wantMultiplying(t, x, left, right, want)
		}
		wantRight(t, "a scheme after moves", x)
	})
}

// TestMainGuaranteeForOtherSchemes moves schemes that are hardly ever correct: what they make stays the same, too.
func TestMainGuaranteeForOtherSchemes(t *testing.T) {
	eachSchemeToMove(func(s *sequence, x impl.Scheme) {
		sums := expectSums(x)
		left, right := someMatrix(s, x.Prime, x.Rows, x.Inner), someMatrix(s, x.Prime, x.Inner, x.Cols)
		want := expectMade(x, left, right)
		for range 6 {
			x = moveOf(s, x)
			if !impl.IsScheme(x) || !slices.Equal(expectSums(x), sums) {
				t.Fatalf("a move leads to %v, which has other sums", x)
			}
			wantMultiplying(t, x, left, right, want)
		}
	})
}

// TestMainGuaranteeForAllMatrices has all matrices, or many of them, for moved schemes of few sizes.
func TestMainGuaranteeForAllMatrices(t *testing.T) {
	s := &sequence{}
	for _, p := range primes {
		for _, x := range []impl.Scheme{strassen(p), winograd(p), expectStandard(p, 1, 2, 1), expectJoinScheme(p, 2, 2, 1)} {
			for range 5 {
				x = moveOf(s, x)
			}
			eachPair(x, func(left, right [][]int64) { wantMultiplying(t, x, left, right, expectProduct(p, left, right)) })
		}
	}
}

// TestMainGuaranteeOnADesk has lines in the place of moves: a correct scheme stays correct by all those commands that
// keep it so.
func TestMainGuaranteeOnADesk(t *testing.T) {
	s := &sequence{}
	commands := []string{"sort", "turn", "transpose", "scaled", "merge", "complete", "walk", "rows", "inner", "cols", "times", "restrict", "small", "standard", "known", "swap", "reset"}
	for range 60 {
		d := expectNew()
		for range 60 {
			d, _ = run(t, d, lineFor(s, d, oneOf(s, commands...)))
			wantLine(t, d, "correct", "yes")
			wantLine(t, d, "wrong", "0")
			x := d.First
			left, right := someMatrix(s, x.Prime, x.Rows, x.Inner), someMatrix(s, x.Prime, x.Inner, x.Cols)
			wantMultiplying(t, x, left, right, expectProduct(x.Prime, left, right))
		}
	}
}
