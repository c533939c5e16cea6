package tests

import (
	"fmt"
	"slices"
	"strings"
	"testing"

	"loop.example/g01262/impl"
)

func TestConstantsOfTheConsole(t *testing.T) {
	wantSame(t, "MaxConsole and MaxLines", [2]int64{impl.MaxConsole, impl.MaxLines}, [2]int64{4000, 40})
}

// wantRefused tests that a text is refused because of its limits.
func wantRefused(t *testing.T, text string) {
	t.Helper()
	d, output, ok := runText(t, text)
	if ok || output != "" || !sameDesk(d, impl.Desk{}) {
		t.Fatalf("Console and DeskAfter of %d bytes = %q, %v, %v", len(text), output, d, ok)
	}
}

// wantUnchanged tests that a text has an output and leaves the new desk as it is.
func wantUnchanged(t *testing.T, text, output string) {
	t.Helper()
	if d := wantConsole(t, text, output); !sameDesk(d, impl.NewDesk()) {
		t.Fatalf("DeskAfter of %q = %v", text, d)
	}
}

func TestEmptyTexts(t *testing.T) {
	wantUnchanged(t, "", "")
	for count := range impl.MaxLines + 1 {
		wantUnchanged(t, strings.Repeat("\n", count), "")
	}
	for count := impl.MaxLines + 1; count <= impl.MaxConsole+1; count += 97 {
		wantRefused(t, strings.Repeat("\n", count))
	}
}

func TestLastLines(t *testing.T) {
	wantUnchanged(t, "products", "7\n")
	wantUnchanged(t, "products\n", "7\n")
	wantUnchanged(t, "products\n\n", "7\n")
	wantUnchanged(t, "\nproducts", "7\n")
	wantUnchanged(t, "products\ncorrect", "7\nyes\n")
	wantUnchanged(t, "products\ncorrect\n", "7\nyes\n")
	wantUnchanged(t, "fly", "error\n")
	wantUnchanged(t, "fly\n", "error\n")
	for _, text := range []string{"swap", "swap\n", "\n\nswap\n\n", "fly\nswap", "swap\nswap\nswap"} {
		d, _, ok := runText(t, text)
		if n := expectNew(); !ok || !sameDesk(d, impl.Desk{First: n.Second, Second: n.First}) {
			t.Fatalf("DeskAfter of %q = %v, %v", text, d, ok)
		}
	}
}

func TestEmptyLinesAmongOthers(t *testing.T) {
	wantUnchanged(t, "\n\nproducts\n\n\ncorrect\n\n", "7\nyes\n")
	wantUnchanged(t, "products\n\n\n\nfly\n\ncorrect", "7\nerror\nyes\n")
	// Lines of blanks and of other bytes are not empty.
	wantUnchanged(t, " \n\nproducts\n  \n", "error\n7\nerror\n")
	wantUnchanged(t, "\r\nproducts\r\n\t\n\x00\nproducts", "error\nerror\nerror\nerror\n7\n")
	wantUnchanged(t, "\xff\nproducts \n products\nproducts", "error\nerror\nerror\n7\n")
	wantUnchanged(t, "products\vproducts\fproducts\u2028products\u0085products\n", "error\n")
}

// TestOtherEndsOfLines tests that nothing but a newline ends a line.
func TestOtherEndsOfLines(t *testing.T) {
	for number := range 256 {
		part := string([]byte{byte(number)})
		want := "error\n"
		if number == 10 {
			want = "7\nyes\n"
		}
		wantUnchanged(t, "products"+part+"correct", want)
	}
}

// endsOfTexts are ways in which the last line of a text ends.
var endsOfTexts = []string{"", "\n"}

// TestNumberOfLines has texts with as many lines as allowed and one more, right and wrong ones and empty ones.
func TestNumberOfLines(t *testing.T) {
	for _, lines := range [][]string{{"products"}, {"fly"}, {"products", ""}, {"", "products"}, {"", "", "", "products"}, {"", "", "", "", "", "", "", "", "", "x"}} {
		for count := 1; count <= 45; count++ {
			list := slices.Repeat(lines, 45)[:count]
			for _, end := range endsOfTexts {
				text := strings.Join(list, "\n") + end
				written := count
				if end == "" && list[count-1] == "" {
					written--
				}
				if written > impl.MaxLines {
					wantRefused(t, text)
					continue
				}
				_, output, ok := runText(t, text)
				wantSame(t, fmt.Sprintf("Console takes %q", text), ok, true)
				wantSame(t, "the number of outputs", strings.Count(output, "\n"), count-howManyEmpty(list))
			}
		}
	}
}

func howManyEmpty(lines []string) int {
	empty := 0
	for _, line := range lines {
		empty += count(line == "")
	}
	return empty
}

// TestLinesAtTheLimit has 40 lines, the last one ended or not, and 41, of which the last one is empty or not.
func TestLinesAtTheLimit(t *testing.T) {
	forty := strings.TrimSuffix(strings.Repeat("swap\n", 40), "\n")
	texts := expectText(expectNew().Second) + "\n" + expectText(expectNew().First) + "\n"
	outputs := strings.Repeat(texts, 20)
	wantUnchanged(t, forty, outputs)
	wantUnchanged(t, forty+"\n", outputs)
	wantRefused(t, forty+"\n\n")
	wantRefused(t, forty+"\nx")
	wantRefused(t, forty+"\nx\n")
	wantRefused(t, "\n"+forty)
	wantRefused(t, "\n"+forty+"\n")
	wantRefused(t, strings.Repeat("\n", 40)+"x")
	wantUnchanged(t, strings.Repeat("\n", 39)+"x", "error\n")
	wantUnchanged(t, strings.Repeat("\n", 39)+"x\n", "error\n")
}

// TestBytesAtTheLimit has texts of 4000 bytes and one more: one line, some lines, and empty ones.
func TestBytesAtTheLimit(t *testing.T) {
	for _, first := range []string{"", "products\n", "\n\n", "swap\nproducts\nswap\n"} {
		outputs := map[string]string{
			"": "", "products\n": "7\n", "\n\n": "",
			"swap\nproducts\nswap\n": expectText(expectNew().Second) + "\n4\n" + expectText(expectNew().First) + "\n",
		}[first]
		for _, end := range endsOfTexts {
			fill := func(count int) string { return first + strings.Repeat("x", count-len(first)-len(end)) + end }
			wantUnchanged(t, fill(impl.MaxConsole), outputs+"error\n")
			wantUnchanged(t, fill(impl.MaxConsole-1), outputs+"error\n")
			wantRefused(t, fill(impl.MaxConsole+1))
			wantRefused(t, fill(impl.MaxConsole+2))
			wantRefused(t, fill(2*impl.MaxConsole))
			wantRefused(t, fill(1<<20))
		}
	}
}

// TestBytesAreCounted has characters of several bytes.
func TestBytesAreCounted(t *testing.T) {
	wantUnchanged(t, strings.Repeat("é", impl.MaxConsole/2), "error\n")
	wantRefused(t, strings.Repeat("é", impl.MaxConsole/2+1))
	wantRefused(t, strings.Repeat("é", impl.MaxConsole/2)+"\n")
	wantUnchanged(t, strings.Repeat("\xff", impl.MaxConsole), "error\n")
	wantRefused(t, strings.Repeat("\xff", impl.MaxConsole+1))
}

// TestLongOutputs has outputs that are far longer than a text may be.
func TestLongOutputs(t *testing.T) {
	s := &sequence{}
	x := someScheme(s, 5, 3, 3, 3, impl.MaxProducts)
	text := "first " + expectText(x) + "\n" + strings.Repeat("show\n", impl.MaxLines-1)
	d := wantConsole(t, text, strings.Repeat(expectText(x)+"\n", impl.MaxLines))
	if !sameDesk(d, impl.Desk{First: x, Second: expectNew().Second}) {
		t.Fatalf("DeskAfter of %q = %v", text, d)
	}
	wantRefused(t, text+"show")
}

// TestRefusedTextsAreNotExecuted tests that both functions refuse the same texts, whatever lines these have.
func TestRefusedTextsAreNotExecuted(t *testing.T) {
	s := &sequence{}
	for range 300 {
		lines := someTextLines(s, 41+s.below(5))
		lines[len(lines)-1] = "products"
		wantRefused(t, strings.Join(lines, "\n")+oneOf(s, endsOfTexts...))
		long := strings.Join(someTextLines(s, 1+s.below(20)), "\n")
		for len(long) <= impl.MaxConsole {
			long += oneOf(s, " ", "x", "0", "\t")
		}
		wantRefused(t, long)
	}
}
