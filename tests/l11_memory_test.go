package tests

import (
	"fmt"
	"slices"
	"strings"
	"sync"
	"testing"
	"time"

	"loop.example/g01262/impl"
)

// wantListsApart fills all memory of both lists of a desk with products of their own, and looks whether each keeps
// them.
func wantListsApart(t *testing.T, what string, d impl.Desk) {
	t.Helper()
	first, second := d.First.Products[:cap(d.First.Products)], d.Second.Products[:cap(d.Second.Products)]
	marks := [2]impl.Product{{A: impl.Form{61}}, {B: impl.Form{62}}}
	for at := range first {
		first[at] = marks[0]
	}
	for at := range second {
		second[at] = marks[1]
	}
	for _, q := range first {
		if q != marks[0] {
			t.Fatalf("%s: the two lists of a desk share memory", what)
		}
	}
}

// sharedDesks returns desks whose schemes share memory, or have room behind them for which the other one stands, with
// all of this memory.
func sharedDesks() map[string]func() (impl.Desk, []impl.Product) {
	s := &sequence{}
	list := someScheme(s, 2, 2, 2, 2, 12).Products
	with := func(products []impl.Product) impl.Scheme {
		return impl.Scheme{Prime: 2, Rows: 2, Inner: 2, Cols: 2, Products: products}
	}
	desks := map[string]func() (impl.Desk, []impl.Product){}
	for name, bounds := range map[string][4]int{
		"the same list": {0, 12, 0, 12}, "lists that overlap": {0, 7, 3, 10}, "the second list behind the first one": {0, 4, 4, 8},
		"the first list behind the second one": {6, 12, 0, 6}, "an empty list in the other one": {0, 5, 2, 2}, "lists of one product": {3, 4, 4, 5},
	} {
		desks[name] = func() (impl.Desk, []impl.Product) {
			whole := slices.Clone(list)
			return impl.Desk{First: with(whole[bounds[0]:bounds[1]]), Second: with(whole[bounds[2]:bounds[3]])}, whole
		}
	}
	for at, drawn := range append(desksForCommands(), deskFor("times"), deskFor("inner"), deskFor("cols"), deskFor("equivalent")) {
		desks[fmt.Sprint("the desk ", at)] = func() (impl.Desk, []impl.Product) {
			x, whole := roomy(drawn.First)
			y, other := roomy(drawn.Second)
			x.Products = append(slices.Clone(whole), other...)[:len(x.Products)]
			whole = x.Products[:len(whole)+len(other)]
			y.Products = whole[len(whole)-len(other):][:len(y.Products)]
			return impl.Desk{First: x, Second: y}, whole
		}
	}
	return desks
}

// linesToRun are lines of each command on a desk, and wrong ones.
func linesToRun(s *sequence, d impl.Desk) []string {
	lines := slices.Concat(rightLines, otherLines, []string{"show ", "without 99", "first 2:1x1x1;1*1*2", "walk 0 0"})
	for _, command := range commandNames() {
		lines = append(lines, lineFor(s, d, command))
	}
	return lines
}

// TestDesksAreNotChangedOrShared executes lines on desks with room behind their lists, and on desks whose lists share
// memory. What they return is spoiled then.
func TestDesksAreNotChangedOrShared(t *testing.T) {
	s := &sequence{}
	for name, makeDesk := range sharedDesks() {
		d, whole := makeDesk()
		before := slices.Clone(whole)
		for _, line := range linesToRun(s, d) {
			what := fmt.Sprintf("RunLine of %q on %s", line, name)
			after, output := run(t, d, line)
			wantProductsKept(t, what+": its argument", whole, before)
			text := fmt.Sprint(after)
			wantListsApart(t, what, after)
			wantProductsKept(t, what+": its argument after the result was changed", whole, before)
			again, outputAgain := impl.RunLine(d, line)
			wantSame(t, what+" again", fmt.Sprint(again)+outputAgain, text+output)
		}
	}
}

// TestDesksBehindLinesStayApart goes on with the desk behind each line, and spoils the one before.
func TestDesksBehindLinesStayApart(t *testing.T) {
	s := &sequence{}
	for range 20 {
		d, _ := run(t, someDesk(s), "show")
		for range 40 {
			line := someLine(s, d)
			after, _ := run(t, d, line)
			text := fmt.Sprint(after)
			wantListsApart(t, "the desk before", d)
			wantSame(t, fmt.Sprintf("the desk behind %q after the one before was changed", line), fmt.Sprint(after), text)
			d = after
		}
	}
}

// TestDesksOfNoSchemesAreNotChanged has desks that are none, on which nothing is executed.
func TestDesksOfNoSchemesAreNotChanged(t *testing.T) {
	for name, wrong := range notSchemes() {
		x, whole := roomy(wrong)
		before := slices.Clone(whole)
		for _, line := range rightLines {
			impl.RunLine(impl.Desk{First: x, Second: x}, line)
			impl.RunLine(impl.Desk{First: strassen(2), Second: x}, line)
			wantProductsKept(t, "RunLine on a desk with "+name, whole, before)
		}
		impl.IsDesk(impl.Desk{First: x, Second: x})
		wantProductsKept(t, "IsDesk with "+name, whole, before)
	}
}

// TestDesksAreNew spoils what NewDesk and DeskAfter return, and calls them again.
func TestDesksAreNew(t *testing.T) {
	s := &sequence{}
	texts := []string{"", "swap", "reset", "reset\nswap", "swap\nreset", "fly", "second " + expectText(strassen(2)), "known strassen 2\nswap\nknown strassen 2"}
	for range 60 {
		texts = append(texts, strings.Join(someTextLines(s, s.below(20)), "\n"))
	}
	for _, text := range texts {
		d, _ := impl.DeskAfter(text)
		wantListsApart(t, fmt.Sprintf("DeskAfter of %q", text), d)
		wantListsApart(t, "NewDesk", impl.NewDesk())
		runText(t, text)
		if !sameDesk(impl.NewDesk(), expectNew()) {
			t.Fatalf("NewDesk behind %q = %v", text, impl.NewDesk())
		}
	}
}

// TestConsolesAgain tests that no call depends on those before it.
func TestConsolesAgain(t *testing.T) {
	s := &sequence{}
	var texts, outputs []string
	for range 100 {
		text := strings.Join(someTextLines(s, s.below(30)), "\n")
		texts, outputs = append(texts, text), append(outputs, impl.Console(text))
	}
	for at := range texts {
		other := len(texts) - 1 - at
		wantSame(t, fmt.Sprintf("Console of %q again", texts[other]), impl.Console(texts[other]), outputs[other])
	}
}

// TestConsolesAtOnce calls from many goroutines, with one desk and one text.
func TestConsolesAtOnce(t *testing.T) {
	text := "rows\nwalk 77 50\nneedless\nswap\nstabiliser\nreset\nfly\nmerge\nstandard 5 2 2 2\ncomplete\n"
	wantDesk, want, _ := expectConsole(text)
	d := impl.NewDesk()
	var group sync.WaitGroup
	for range 20 {
		group.Go(func() {
			for range 5 {
				after, ok := impl.DeskAfter(text)
				next, output := impl.RunLine(d, "products")
				if impl.Console(text) != want || !ok || !sameDesk(after, wantDesk) || output != "7" || !sameDesk(next, d) {
					t.Errorf("Console = %q, DeskAfter = %v, RunLine = %v, %q", impl.Console(text), after, next, output)
				}
			}
		})
	}
	group.Wait()
}

// greatestDesks are desks with as many products as there may be, of the greatest sizes that commands take.
func greatestDesks() []impl.Desk {
	s := &sequence{}
	alike := alikeScheme(s, 2, 2, 2, 2, impl.MaxProducts)
	same := impl.Scheme{Prime: 2, Rows: 2, Inner: 2, Cols: 2, Products: slices.Repeat(strassen(2).Products, 5)[:impl.MaxProducts]}
	return []impl.Desk{
		{First: someScheme(s, 5, 3, 3, 3, impl.MaxProducts), Second: someScheme(s, 5, 3, 3, 3, impl.MaxProducts)},
		{First: alikeScheme(s, 5, 3, 3, 3, impl.MaxProducts), Second: expectStandard(5, 1, 1, 1)},
		{First: fullScheme(3, 3, impl.MaxProducts), Second: equalProducts(3, 1)},
		{First: oftenSplit(s, expectStandard(5, 3, 3, 3)), Second: expectStandard(5, 1, 1, 1)},
		{First: someScheme(s, 2, 2, 2, 2, impl.MaxProducts), Second: someScheme(s, 2, 2, 2, 2, impl.MaxProducts)},
		{First: alike, Second: alike}, {First: same, Second: same},
	}
}

// longestLines are lines of each command that take long.
var longestLines = []string{
	"standard 5 3 3 3", "known winograd 5", "small 5 3 3 3", "swap", "rows", "inner", "cols", "times", "restrict 2 2 2", "sort", "without 29", "turn",
	"transpose", "scaled", "merge", "complete", "walk 2147483646 200", "show", "other", "products", "correct", "wrong", "equivalent", "stabiliser",
	"cost", "repeat 8", "gain 1", "gain 1000", "needless", "reset",
}

// TestLinesReturnInTime has 40 lines of each command on the greatest desks, as lines and as texts.
func TestLinesReturnInTime(t *testing.T) {
	for at, greatest := range greatestDesks() {
		for _, line := range append(longestLines, "first "+expectText(greatest.First), "second "+expectText(greatest.First)) {
			from, d := time.Now(), greatest
			for range impl.MaxLines {
				impl.RunLine(greatest, line)
				d, _ = impl.RunLine(d, line)
			}
			if took := time.Since(from); took > longest {
				t.Errorf("40 lines of %s on the desk %d took %v", line[:min(len(line), 30)], at, took)
			}
		}
	}
}

func TestConsolesReturnInTime(t *testing.T) {
	s := &sequence{}
	texts := []string{strings.Repeat("\n", 1<<24), strings.Repeat("x", 1<<24), strings.Repeat("show\n", 1<<20)}
	for _, greatest := range greatestDesks() {
		head := "first " + expectText(greatest.First) + "\nsecond " + expectText(greatest.Second) + "\n"
		for _, line := range longestLines {
			texts = append(texts, head+strings.Repeat(line+"\n", impl.MaxLines-2))
		}
		texts = append(texts, head+strings.Join(shuffled(s, append(longestLines, longestLines...))[:impl.MaxLines-2], "\n"))
	}
	for at, text := range texts {
		from := time.Now()
		impl.Console(text)
		impl.DeskAfter(text)
		if took := time.Since(from); took > longest {
			t.Errorf("the text %d, with %d bytes, took %v", at, len(text), took)
		}
	}
}
