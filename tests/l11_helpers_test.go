package tests

import (
	"fmt"
	"slices"
	"strings"
	"testing"

	"loop.example/g01262/impl"
)

// oneOf draws an element of a list.
func oneOf[T any](s *sequence, list ...T) T { return list[s.below(int64(len(list)))] }

// deskSchemes returns schemes for a prime and sizes: correct ones, such with needless products among them, and others,
// with none to most products.
func deskSchemes(s *sequence, p, n, m, k int64) []impl.Scheme {
	list := correctSchemes(p, n, m, k)
	split := oftenSplit(s, list[len(list)-1])
	more := list[0]
	more.Products = append(slices.Clone(more.Products), someProduct(s, p, n, m, k), someProduct(s, p, n, m, k))
	return append(list, split, more,
		frame(p, n, m, k), someScheme(s, p, n, m, k, 1), alikeScheme(s, p, n, m, k, 9),
		someScheme(s, p, n, m, k, impl.MaxProducts), alikeScheme(s, p, n, m, k, impl.MaxProducts),
	)
}

// partners returns schemes to stand beside x on a desk: of the same sizes, a change of it among them, of sizes that can
// be joined or multiplied with its, of others, and of other primes.
func partners(s *sequence, x impl.Scheme) []impl.Scheme {
	p, n, m, k := x.Prime, x.Rows, x.Inner, x.Cols
	drawn := func(p, n, m, k int64) impl.Scheme { return oneOf(s, deskSchemes(s, p, n, m, k)...) }
	size := func() int64 { return 1 + s.below(3) }
	alike := expectChanged(x, someTriple(s, x))
	alike.Products = shuffled(s, alike.Products)
	return []impl.Scheme{
		x, alike, drawn(p, n, m, k), drawn(p, size(), m, k), drawn(p, n, size(), k), drawn(p, n, m, size()),
		drawn(p, 1, 1, 1), drawn(p, size(), size(), size()), drawn(oneOf(s, primes...), n, m, k), drawn(2, 2, 2, 2),
	}
}

// eachDesk calls do for desks of all primes and sizes, each scheme with two others beside it.
func eachDesk(do func(s *sequence, d impl.Desk)) {
	s := &sequence{}
	do(s, expectNew())
	eachSize(func(p, n, m, k int64) {
		for _, x := range deskSchemes(s, p, n, m, k) {
			for _, y := range shuffled(s, partners(s, x))[:2] {
				do(s, impl.Desk{First: x, Second: y})
			}
		}
	})
}

// someDesk draws a desk.
func someDesk(s *sequence) impl.Desk {
	x := oneOf(s, deskSchemes(s, oneOf(s, primes...), 1+s.below(3), 1+s.below(3), 1+s.below(3))...)
	return impl.Desk{First: x, Second: oneOf(s, partners(s, x)...)}
}

// commandNames are all commands of the table.
func commandNames() []string {
	var names []string
	for _, way := range lineWays {
		names = append(names, way.commandOf())
	}
	return names
}

// numbersFor draws the words of a line with a command behind it, most of them such as suit a desk.
func numbersFor(s *sequence, d impl.Desk, command string) []any {
	p, size := oneOf[any](s, 2, 3, 5, 2, 3, 5, 4, 0), func() any { return oneOf[any](s, 1, 2, 3, 1, 2, 3, 1, 2, 3, 0, 4) }
	switch command {
	case "first", "second":
		return []any{oneOf(s, expectText(someDesk(s).First), expectText(d.First), expectText(d.Second), "2:1x1x1;1*1*2", "")}
	case "standard", "small":
		return []any{p, size(), size(), size()}
	case "known":
		return []any{oneOf(s, "strassen", "winograd", "plain", "strassen", "winograd", "plain", "standard", ""), p}
	case "restrict":
		return []any{1 + s.below(d.First.Rows), 1 + s.below(d.First.Inner), 1 + s.below(d.First.Cols+s.below(2))}
	case "without":
		return []any{s.below(int64(len(d.First.Products)) + 1)}
	case "walk":
		return []any{oneOf(s, someSeed(s), 1, 2147483646, 0, 2147483647), oneOf(s, someSteps(s), someSteps(s), 201)}
	case "repeat":
		return []any{s.below(10)}
	case "gain":
		return []any{oneOf[any](s, 1, 2, 7, 8, 9, 33, 1000, 0, 1001)}
	}
	return nil
}

// lineFor returns a line with a command, drawn to suit a desk.
func lineFor(s *sequence, d impl.Desk, command string) string {
	line := command
	for _, word := range numbersFor(s, d, command) {
		line += " " + fmt.Sprint(word)
	}
	return line
}

// rightLines are lines that have no error on the new desk, one for each command, in the order of the table.
var rightLines = []string{
	"first 2:1x1x1;1*1*1+1*1*1", "second 3:1x2x1;", "standard 5 1 2 3", "known winograd 3", "small 2 2 2 3", "swap", "rows",
	"inner", "cols", "times", "restrict 1 2 1", "sort", "without 3", "turn", "transpose", "scaled", "merge", "complete", "walk 7 20",
	"show", "other", "products", "correct", "wrong", "equivalent", "stabiliser", "cost", "repeat 3", "gain 8", "needless", "reset",
}

// deskFor returns a desk on which a right line has no error: the new one, or one like it whose second scheme fits.
func deskFor(line string) impl.Desk {
	d := expectNew()
	switch line {
	case "inner":
		d.Second = expectStandard(2, 2, 1, 2)
	case "cols":
		d.Second = expectStandard(2, 2, 2, 1)
	case "times":
		d.Second = expectStandard(2, 1, 1, 1)
	case "equivalent":
		d.Second = winograd(2)
	}
	return d
}

// wrongNumbers are words that are no numbers of a line, and some that stand for more or fewer words than one.
var wrongNumbers = []string{
	"", "00", "01", "007", "0000000001", "00000000001", "+0", "+1", "-0", "-1", "-2147483648", "--1", "a", "one", "1a", "a1", "0x1", "0b1",
	"0o1", "1e0", "1.0", "1.", ".1", "1,", "1_0", "1'", "\"1\"", "1\t", "\t1", "1\r", "1\n", "1\x00", "\x001", "1\xff", "\xb9", "¹", "１", "٣",
	"12345678901", "10000000000", "99999999999", "18446744073709551617", "36893488147419103233", strings.Repeat("1", 400),
	" 1", "1 ", " ", "1 1",
}

// wrongShapes returns lines like one without an error that are wrong: with blanks, other bytes and words in other
// places, and with the command in other letters.
func wrongShapes(line string) []string {
	words := strings.Split(line, " ")
	rest := strings.Join(words[1:], " ")
	list := []string{
		" " + line, "  " + line, line + " ", line + "  ", " " + line + " ", line + " 0", line + " x", line + "  0", line + "\t", "\t" + line,
		line + "\r", line + "\n", "\n" + line, line + "\x00", "\x00" + line, line + "\xff", "\xc3" + line, line + "\u00a0", "\u00a0" + line,
		line + "\v", line + "\f", line + "\x1f", line + "\x85", line + ";", line + "\nshow", line + " " + line,
		strings.ToUpper(words[0]) + line[len(words[0]):], strings.ToUpper(line[:1]) + line[1:], words[0][1:] + line[len(words[0]):],
		words[0][:len(words[0])-1] + line[len(words[0]):], words[0] + "s" + line[len(words[0]):], "x" + line,
	}
	for _, other := range []string{"\t", "\r", "\x00", "\n", "\u00a0", "\v", "_", ",", "  ", " \t", "\t "} {
		if len(words) > 1 {
			list = append(list, words[0]+other+rest, strings.ReplaceAll(line, " ", other))
		}
	}
	if len(words) > 1 {
		list = append(list, words[0], words[0]+" ", words[0]+"  ", strings.Join(words[:len(words)-1], " "), words[0]+rest)
	}
	return list
}

// otherLines are lines whose commands are none of the table.
var otherLines = []string{
	"", " ", "  ", "\t", "\n", "\r", "\x00", "\xff", "\xe2\x80", "fly", "none", "error", "yes", "ok", "0", "7", "help", "quit", "split 0 0 1", "flip 0 1 0 1",
	"plus 0 1", "reduce", "normal", "change", "profile", "third 2:1x1x1;", "add 1*1*1", "text", "new", "stabilizer", "equal", "mixed 1 1",
	"2:1x1x1;1*1*1", "first2:1x1x1;1*1*1", "showother", "show,other", "products;", "Products", "PRODUCTS", "pröducts", "ｓhow", "ſhow", "\u212anown strassen 2",
	"show\tother", "swap\nswap", "show\x00", "walk\t1 1", "second", "first",
}

// run executes a line and compares what it returns with what it should.
func run(t *testing.T, d impl.Desk, line string) (impl.Desk, string) {
	t.Helper()
	after, output := impl.RunLine(d, line)
	want, wantOutput := expectLine(d, line)
	if output != wantOutput || !sameDesk(after, want) {
		t.Fatalf("RunLine of %v and %q = %v, %q, want %v, %q", d, line, after, output, want, wantOutput)
	}
	return after, output
}

func sameDesk(d, e impl.Desk) bool {
	return sameScheme(d.First, e.First) && sameScheme(d.Second, e.Second)
}

// wantWrongLine tests that a line has the output error on a desk, which stays as it is.
func wantWrongLine(t *testing.T, d impl.Desk, line string) {
	t.Helper()
	after, output := run(t, d, line)
	if output != "error" || !sameDesk(after, d) {
		t.Fatalf("RunLine of %v and %q = %v, %q, which is no error", d, line, after, output)
	}
}

// wantLine tests that a line has an output on a desk, and no error.
func wantLine(t *testing.T, d impl.Desk, line, want string) impl.Desk {
	t.Helper()
	after, output := run(t, d, line)
	if output != want {
		t.Fatalf("RunLine of %v and %q has the output %q, want %q", d, line, output, want)
	}
	return after
}

// runText compares what Console and DeskAfter return with what they should.
func runText(t *testing.T, text string) (impl.Desk, string, bool) {
	t.Helper()
	output := impl.Console(text)
	d, ok := impl.DeskAfter(text)
	want, wantOutput, wantOk := expectConsole(text)
	if output != wantOutput || ok != wantOk || !sameDesk(d, want) {
		t.Fatalf("Console and DeskAfter of %q = %q, %v, %v, want %q, %v, %v", text, output, d, ok, wantOutput, want, wantOk)
	}
	return d, output, ok
}

// wantConsole tests that a text has an output.
func wantConsole(t *testing.T, text, want string) impl.Desk {
	t.Helper()
	d, output, ok := runText(t, text)
	if output != want || !ok {
		t.Fatalf("Console of %q = %q, %v, want %q", text, output, ok, want)
	}
	return d
}
