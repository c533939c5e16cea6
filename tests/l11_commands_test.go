package tests

import (
	"fmt"
	"slices"
	"strings"
	"testing"

	"loop.example/g01262/impl"
)

// transcripts are texts with their outputs, checked by hand against the table. Each pair of strings is a line and its output.
var transcripts = [][][2]string{
	{
		{"show", "2:2x2x2;1001*1001*1001+0011*1000*0011+1000*0101*0101+0001*1010*1010+1100*0001*1100+1010*1100*0001+0101*0011*1000"},
		{"other", "2:1x2x2;10*1000*10+10*0100*01+01*0010*10+01*0001*01"},
		{"products", "7"}, {"correct", "yes"}, {"wrong", "0"}, {"equivalent", "error"}, {"stabiliser", "6"}, {"cost", "7 5 5 8"},
		{"repeat 0", "1 0"}, {"repeat 1", "7 18"}, {"repeat 2", "49 198"}, {"repeat 8", "5764801 34195590"}, {"repeat 9", "error"},
		{"gain 7", "2"}, {"gain 8", "1"}, {"gain 1", "error"}, {"needless", "none"},
	},
	{
		{"rows", "2:3x2x2;100100*1001*100100+001100*1000*001100+100000*0101*010100+000100*1010*101000+110000*0001*110000+" +
			"101000*1100*000100+010100*0011*100000+000010*1000*000010+000010*0100*000001+000001*0010*000010+000001*0001*000001"},
		{"products", "11"}, {"correct", "yes"}, {"cost", "11 5 5 10"}, {"stabiliser", "error"}, {"repeat 1", "error"}, {"gain 8", "error"},
		{"rows", "error"}, {"products", "11"}, {"other", "2:1x2x2;10*1000*10+10*0100*01+01*0010*10+01*0001*01"},
	},
	{
		{"standard 5 1 2 1", "5:1x2x1;10*10*1+01*01*1"},
		{"known winograd 3", "3:2x2x2;1000*1000*1111+0100*0010*1000+2011*1201*0111+0011*2100*0101+1020*0201*0011+0001*1221*0020+1122*0001*0100"},
		{"rows", "error"}, {"inner", "error"}, {"cols", "error"}, {"times", "error"}, {"equivalent", "error"},
		{"small 3 1 2 1", "3:1x2x1;10*10*1+01*01*1"}, {"second 3:1x2x1;12*20*1", "3:1x2x1;12*20*1"}, {"inner", "error"},
		{"cols", "3:1x2x2;10*1000*10+01*0010*10+12*0200*01"}, {"correct", "no"}, {"wrong", "3"}, {"other", "3:1x2x1;12*20*1"},
		{"swap", "3:1x2x1;12*20*1"}, {"other", "3:1x2x2;10*1000*10+01*0010*10+12*0200*01"}, {"swap", "3:1x2x2;10*1000*10+01*0010*10+12*0200*01"},
		{"restrict 1 1 2", "3:1x1x2;1*10*10+1*02*01"}, {"restrict 1 2 1", "error"}, {"turn", "3:1x2x1;10*10*1+02*01*1"},
		{"transpose", "3:1x2x1;10*10*1+01*02*1"}, {"sort", "3:1x2x1;01*02*1+10*10*1"}, {"without 2", "error"}, {"without 1", "3:1x2x1;01*02*1"},
		{"scaled", "3:1x2x1;01*01*2"}, {"complete", "error"}, {"without 0", "3:1x2x1;"}, {"without 0", "error"}, {"show", "3:1x2x1;"},
		{"products", "0"}, {"wrong", "2"}, {"cost", "0 0 0 0"}, {"needless", "none"}, {"walk 1 200", "3:1x2x1;"}, {"merge", "3:1x2x1;"},
		{"reset", "ok"}, {"products", "7"}, {"other", "2:1x2x2;10*1000*10+10*0100*01+01*0010*10+01*0001*01"},
	},
	{
		{"first 3:1x1x1;2*2*1+1*1*2", "3:1x1x1;2*2*1+1*1*2"}, {"correct", "no"}, {"needless", "0 1"}, {"complete", "3:1x1x1;2*2*1"},
		{"correct", "yes"}, {"needless", "none"}, {"first 3:1x1x1;2*2*1+1*1*2", "3:1x1x1;2*2*1+1*1*2"},
		{"scaled", "3:1x1x1;1*1*1+1*1*2"}, {"merge", "3:1x1x1;"}, {"needless", "none"}, {"first 3:1x1x1;1*2*1+1*1*1", "3:1x1x1;1*2*1+1*1*1"},
		{"merge", "3:1x1x1;"}, {"first 5:1x1x1;1*2*1+1*1*1", "5:1x1x1;1*2*1+1*1*1"}, {"merge", "5:1x1x1;1*3*1"}, {"wrong", "1"},
		{"second 5:3x3x3;", "5:3x3x3;"}, {"times", "5:3x3x3;"}, {"times", "error"}, {"wrong", "27"}, {"repeat 8", "0 0"}, {"gain 1000", "1"},
	},
	{
		{"first 2:1x2x1;10*10*1+01*01*1+10*01*1", "2:1x2x1;10*10*1+01*01*1+10*01*1"}, {"needless", "2"}, {"correct", "no"},
		{"complete", "2:1x2x1;10*10*1+01*01*1"}, {"needless", "none"}, {"correct", "yes"}, {"stabiliser", "2"}, {"second 2:1x2x1;11*10*1+01*11*1", "2:1x2x1;11*10*1+01*11*1"},
		{"equivalent", "yes"}, {"second 2:1x2x1;11*10*1+01*10*1", "2:1x2x1;11*10*1+01*10*1"}, {"equivalent", "no"}, {"walk 1 1", "2:1x2x1;10*10*1+01*01*1"},
		{"walk 3 1", "2:1x2x1;10*11*1+11*01*1"}, {"correct", "yes"}, {"walk 0 1", "error"}, {"walk 2147483647 1", "error"}, {"walk 3", "error"},
	},
}

func TestTranscripts(t *testing.T) {
	for _, transcript := range transcripts {
		d, text, outputs := impl.NewDesk(), "", ""
		for _, pair := range transcript {
			d = wantLine(t, d, pair[0], pair[1])
			text += pair[0] + "\n"
			outputs += pair[1] + "\n"
		}
		if after := wantConsole(t, text, outputs); !sameDesk(after, d) {
			t.Fatalf("DeskAfter of %q = %v, but the lines lead to %v", text, after, d)
		}
	}
}

// TestExampleOfTheDocument has the example of the document.
func TestExampleOfTheDocument(t *testing.T) {
	wantLine(t, impl.NewDesk(), "products", "7")
	wantConsole(t, "products", "7\n")
}

func TestNewDesk(t *testing.T) {
	d := impl.NewDesk()
	if !sameDesk(d, expectNew()) || !impl.IsDesk(d) {
		t.Fatalf("NewDesk = %v", d)
	}
	known, standard := first(impl.KnownScheme("strassen", 2)), first(impl.StandardScheme(2, 1, 2, 2))
	if !sameDesk(d, impl.Desk{First: known, Second: standard}) {
		t.Fatalf("NewDesk = %v, want %v and %v", d, known, standard)
	}
}

// desksForCommands returns desks of many kinds.
func desksForCommands() []impl.Desk {
	s := &sequence{3}
	list := []impl.Desk{expectNew(), {First: frame(5, 3, 3, 3), Second: frame(2, 1, 1, 1)}, {First: someScheme(s, 3, 3, 3, 3, impl.MaxProducts), Second: equalProducts(3, impl.MaxProducts)}}
	for range 6 {
		list = append(list, someDesk(s))
	}
	return list
}

// TestLinesOfSizes has all primes and sizes, and those behind their limits, for both commands that take them.
func TestLinesOfSizes(t *testing.T) {
	right := 0
	for _, d := range desksForCommands()[:4] {
		for at := range int64(7 * 125) {
			numbers := fmt.Sprint(at/125, at/25%5, at/5%5, at%5)
			for _, command := range []string{"standard", "small"} {
				after, output := run(t, d, command+" "+strings.Trim(numbers, "[]"))
				right += count(output != "error")
				if output != "error" && !sameScheme(after.Second, d.Second) {
					t.Fatalf("%s %s changes Y to %v", command, numbers, after.Second)
				}
			}
		}
	}
	wantSame(t, "lines without an error", right, 4*2*81)
}

// TestLinesOfNames has all names for all primes, and those that are none.
func TestLinesOfNames(t *testing.T) {
	for _, d := range desksForCommands() {
		for p := range 8 {
			for _, name := range []string{"strassen", "winograd", "plain"} {
				_, output := run(t, d, fmt.Sprint("known ", name, " ", p))
				wantSame(t, fmt.Sprint(name, " of ", p, " is no error"), output != "error", slices.Contains(primes, int64(p)))
			}
			for _, name := range notNames {
				wantWrongLine(t, d, fmt.Sprint("known ", name, " ", p))
			}
		}
	}
}

// TestLinesOfTexts sets both schemes by texts of schemes of all kinds.
func TestLinesOfTexts(t *testing.T) {
	s := &sequence{}
	d := expectNew()
	eachSize(func(p, n, m, k int64) {
		for _, x := range deskSchemes(s, p, n, m, k) {
			after := wantLine(t, d, "first "+expectText(x), expectText(x))
			if !sameDesk(after, impl.Desk{First: x, Second: d.Second}) {
				t.Fatalf("first %v leads from %v to %v", x, d, after)
			}
			d = wantLine(t, after, "second "+expectText(x), expectText(x))
			if !sameDesk(d, impl.Desk{First: x, Second: x}) {
				t.Fatalf("second %v leads from %v to %v", x, after, d)
			}
			y := oneOf(s, partners(s, x)...)
			d = wantLine(t, d, "first "+expectText(y), expectText(y))
			wantLine(t, d, "other", expectText(x))
		}
	})
}

func TestTextsOfNoSchemes(t *testing.T) {
	for _, d := range desksForCommands()[:4] {
		for _, text := range notTexts {
			for _, command := range []string{"first", "second"} {
				wantWrongLine(t, d, command+" "+text)
				wantWrongLine(t, d, command+"  "+text)
				wantWrongLine(t, d, command+"\t"+text)
			}
		}
	}
}

// TestLinesOfTwoSchemes has schemes of all pairs of sizes, and of different primes.
func TestLinesOfTwoSchemes(t *testing.T) {
	right, others := map[string]int{}, map[string]int{}
	s := &sequence{}
	for at := range int64(27 * 27) {
		sizes := [6]int64{at/243 + 1, at/81%3 + 1, at/27%3 + 1, at/9%3 + 1, at/3%3 + 1, at%3 + 1}
		p := oneOf(s, primes...)
		x := oneOf(s, deskSchemes(s, p, sizes[0], sizes[1], sizes[2])...)
		for _, q := range primes {
			y := oneOf(s, deskSchemes(s, q, sizes[3], sizes[4], sizes[5])...)
			for _, command := range []string{"rows", "inner", "cols", "times"} {
				after, output := run(t, impl.Desk{First: x, Second: y}, command)
				if output == "error" {
					others[command]++
					continue
				}
				right[command]++
				if p != q || !sameScheme(after.Second, y) {
					t.Fatalf("%s of %v and %v leads to %v", command, x, y, after)
				}
			}
		}
	}
	for _, command := range []string{"rows", "inner", "cols", "times"} {
		if right[command] < 10 || others[command] < 100 {
			t.Errorf("%s: %d lines without an error, and %d with it", command, right[command], others[command])
		}
	}
}

// TestLinesOfManyProducts joins and multiplies schemes with MaxProducts products and with one or two more.
func TestLinesOfManyProducts(t *testing.T) {
	s := &sequence{}
	for _, example := range []struct{ first, second int }{{15, 15}, {15, 16}, {30, 0}, {30, 1}, {0, 30}, {29, 1}, {29, 2}, {1, 30}} {
		x, y := someScheme(s, 2, 1, 1, 1, example.first), someScheme(s, 2, 1, 1, 1, example.second)
		for _, command := range []string{"rows", "inner", "cols"} {
			_, output := run(t, impl.Desk{First: x, Second: y}, command)
			wantSame(t, fmt.Sprint(command, " of ", example), output != "error", example.first+example.second <= impl.MaxProducts)
		}
		_, output := run(t, impl.Desk{First: x, Second: y}, "times")
		wantSame(t, fmt.Sprint("times of ", example), output != "error", example.first*example.second <= impl.MaxProducts)
	}
}

// TestLinesOfRestrictions has all sizes, and those behind their limits.
func TestLinesOfRestrictions(t *testing.T) {
	s := &sequence{}
	eachSize(func(p, n, m, k int64) {
		d := impl.Desk{First: oneOf(s, deskSchemes(s, p, n, m, k)...), Second: someDesk(s).First}
		right := int64(0)
		for at := range int64(125) {
			_, output := run(t, d, fmt.Sprintf("restrict %d %d %d", at/25, at/5%5, at%5))
			right += int64(count(output != "error"))
		}
		wantSame(t, fmt.Sprint("lines of restrict without an error for ", n, m, k), right, n*m*k)
	})
}

// TestLinesWithoutProducts leaves out each product, and some that are not there.
func TestLinesWithoutProducts(t *testing.T) {
	for _, d := range desksForCommands() {
		for i := range 40 {
			after, output := run(t, d, fmt.Sprint("without ", i))
			wantSame(t, fmt.Sprint("without ", i, " is no error"), output != "error", i < len(d.First.Products))
			if output != "error" {
				wantSame(t, "products", len(after.First.Products), len(d.First.Products)-1)
			}
		}
	}
}

// TestLinesOfOneScheme has the commands that need the first scheme alone, for many schemes.
func TestLinesOfOneScheme(t *testing.T) {
	y := expectStandard(3, 1, 3, 2)
	calls := map[string]func(x impl.Scheme) (impl.Scheme, int64){
		"sort": impl.SortScheme, "turn": impl.TurnScheme, "transpose": impl.TransposeScheme, "scaled": impl.ScaledScheme, "merge": impl.MergeScheme,
		"complete": func(x impl.Scheme) (impl.Scheme, int64) {
			return impl.CompletePairs(x.Prime, x.Rows, x.Inner, x.Cols, first(impl.PairsOf(x)))
		},
	}
	completed, not := 0, 0
	eachSchemeToMove(func(s *sequence, x impl.Scheme) {
		for command, call := range calls {
			want, code := call(x)
			after, output := impl.RunLine(impl.Desk{First: x, Second: y}, command)
			if code != impl.ErrNone {
				wantWrongLine(t, impl.Desk{First: x, Second: y}, command)
				wantSame(t, "the command with an error", [2]any{command, code}, [2]any{"complete", int64(impl.ErrNotFound)})
				not++
				continue
			}
			completed += count(command == "complete")
			if output != expectText(want) || !sameDesk(after, impl.Desk{First: want, Second: y}) {
				t.Fatalf("%s of %v leads to %v, with the output %q, want %v", command, x, after, output, want)
			}
		}
	})
	if completed < 50 || not < 50 {
		t.Fatalf("%d schemes can be completed, and %d cannot", completed, not)
	}
}

// TestLinesOfWalks has seeds and steps at their limits, and behind them.
func TestLinesOfWalks(t *testing.T) {
	for _, d := range desksForCommands() {
		for _, seed := range []int64{0, 1, 2, 48271, 2147483645, 2147483646, 2147483647, 2147483648, 4294967297, 9999999999} {
			for _, steps := range []int64{0, 1, 2, 50, 199, 200, 201, 256, 4294967296, 9999999999} {
				_, output := run(t, d, fmt.Sprint("walk ", seed, " ", steps))
				right := 1 <= seed && seed <= 2147483646 && steps <= 200
				wantSame(t, fmt.Sprint("walk ", seed, " ", steps, " is no error"), output != "error", right)
			}
		}
	}
	d := impl.Desk{First: expectStandard(3, 2, 3, 2), Second: frame(2, 1, 1, 1)}
	changed := wantLine(t, d, "walk 2147483646 200", expectText(expectStroll(d.First, 2147483646, 200)))
	if sameDesk(changed, d) || !sameDesk(wantLine(t, d, "walk 1 0", expectText(d.First)), d) {
		t.Fatalf("walks lead from %v to %v", d, changed)
	}
}

// TestLinesOfCosts has levels and base sizes up to their limits, and behind them, for square schemes and others.
func TestLinesOfCosts(t *testing.T) {
	s := &sequence{}
	codes := map[int64]int{}
	for _, d := range append(desksForCommands(),
		impl.Desk{First: fullScheme(2, 3, impl.MaxProducts), Second: strassen(2)}, impl.Desk{First: expectStandard(5, 2, 2, 2), Second: strassen(5)},
		impl.Desk{First: expectJoinScheme(3, 3, 3, 3), Second: strassen(3)}, impl.Desk{First: someScheme(s, 2, 1, 1, 1, 1), Second: strassen(2)},
	) {
		wantLine(t, d, "cost", strings.Trim(fmt.Sprint(expectCost(d.First)), "[]"))
		for _, levels := range []int64{0, 1, 2, 7, 8, 9, 10, 256, 4294967296, 9999999999} {
			_, code := impl.RepeatedCost(d.First, levels)
			_, output := run(t, d, fmt.Sprint("repeat ", levels))
			wantSame(t, fmt.Sprint("repeat ", levels, " is an error"), output == "error", code != impl.ErrNone)
		}
		for _, base := range []int64{0, 1, 2, 7, 8, 100, 999, 1000, 1001, 4294967297, 9999999999} {
			_, code := impl.FirstGain(d.First, base)
			_, output := run(t, d, fmt.Sprint("gain ", base))
			wantSame(t, fmt.Sprint("gain ", base, " is an error"), output == "error", code != impl.ErrNone)
			codes[code]++
		}
	}
	for _, code := range []int64{impl.ErrNone, impl.ErrRange, impl.ErrNotFound, impl.ErrLimit} {
		if codes[code] == 0 {
			t.Errorf("no line of gain had the code %d: %v", code, codes)
		}
	}
}

// TestLinesOfSmallSchemes has stabilisers and equivalences of small schemes and of others.
func TestLinesOfSmallSchemes(t *testing.T) {
	answers := map[string]int{}
	eachSmall(func(s *sequence, x impl.Scheme) {
		wantLine(t, impl.Desk{First: x, Second: frame(5, 3, 1, 2)}, "stabiliser", fmt.Sprint(expectLeading(x, x)))
		for _, y := range partners(s, x) {
			_, output := run(t, impl.Desk{First: x, Second: y}, "equivalent")
			answers[output]++
		}
	})
	if answers["yes"] < 20 || answers["no"] < 20 || answers["error"] < 20 {
		t.Fatalf("the answers of equivalent are %v", answers)
	}
	for _, d := range desksForCommands() {
		small := d.First.Prime == 2 && max(d.First.Rows, d.First.Inner, d.First.Cols) <= 2
		_, output := run(t, d, "stabiliser")
		wantSame(t, fmt.Sprint("stabiliser of ", d.First, " is an error"), output == "error", !small)
	}
}

// TestLinesOfNeedlessProducts has none, one and several, also such with two digits.
func TestLinesOfNeedlessProducts(t *testing.T) {
	s := &sequence{}
	lengths := map[int]int{}
	eachSize(func(p, n, m, k int64) {
		x := expectStandard(p, n, m, k)
		wantLine(t, impl.Desk{First: x, Second: x}, "needless", "none")
		for range 6 {
			q := oneOf(s, someProduct(s, p, n, m, k), oneOf(s, x.Products...))
			x.Products = slices.Insert(slices.Clone(x.Products), int(s.below(int64(len(x.Products)+1))), q)
			if len(x.Products) > impl.MaxProducts {
				break
			}
			numbers := expectNeedless(x)
			output := strings.Trim(fmt.Sprint(numbers), "[]")
			if len(numbers) == 0 {
				output = "none"
			}
			wantLine(t, impl.Desk{First: x, Second: x}, "needless", output)
			lengths[len(numbers)]++
		}
	})
	if lengths[1] < 10 || lengths[2] < 10 || len(lengths) < 6 {
		t.Fatalf("so often there were so many needless products: %v", lengths)
	}
}

// refusals are lines that functions refuse, with their codes.
var refusals = []struct {
	first, second, line string
	code                int64
}{
	{"2:1x1x1;", "2:1x1x1;", "first 2:1x1x1", impl.ErrSyntax}, {"2:1x1x1;", "2:1x1x1;", "second 2:1x1x1;1*1", impl.ErrSyntax},
	{"2:1x1x1;", "2:1x1x1;", "standard 4 1 1 1", impl.ErrRange}, {"2:1x1x1;", "2:1x1x1;", "small 2 1 4 1", impl.ErrRange},
	{"2:1x1x1;", "2:1x1x1;", "known laderman 2", impl.ErrNotFound}, {"2:1x1x1;", "2:1x1x1;", "known laderman 4", impl.ErrNotFound},
	{"2:1x1x1;", "2:1x1x1;", "known plain 4", impl.ErrRange},
	{"2:1x2x1;", "2:1x1x1;", "rows", impl.ErrRange}, {"2:2x1x1;", "2:2x1x1;", "rows", impl.ErrLimit}, {"2:1x1x1;", "3:1x1x1;", "rows", impl.ErrRange},
	{"2:2x1x1;", "2:1x1x1;", "inner", impl.ErrRange}, {"2:1x2x1;", "2:1x2x1;", "inner", impl.ErrLimit}, {"5:1x1x1;", "3:1x1x1;", "inner", impl.ErrRange},
	{"2:1x2x1;", "2:1x1x1;", "cols", impl.ErrRange}, {"2:1x1x2;", "2:1x1x2;", "cols", impl.ErrLimit}, {"2:1x1x1;", "5:1x1x1;", "cols", impl.ErrRange},
	{"2:2x1x1;", "2:2x1x1;", "times", impl.ErrLimit}, {"2:1x1x1;", "3:1x1x1;", "times", impl.ErrRange},
	{"2:2x2x2;", "2:1x1x1;", "restrict 2 3 2", impl.ErrRange}, {"2:2x2x2;", "2:1x1x1;", "restrict 2 2 0", impl.ErrRange},
	{"2:1x1x1;1*1*1", "2:1x1x1;", "without 1", impl.ErrRange}, {"2:1x1x1;", "2:1x1x1;", "without 0", impl.ErrRange},
	{"2:1x2x1;10*10*1", "2:1x1x1;", "complete", impl.ErrNotFound}, {"2:1x1x1;", "2:1x1x1;", "complete", impl.ErrNotFound},
	{"2:1x1x1;", "2:1x1x1;", "walk 0 1", impl.ErrRange}, {"2:1x1x1;", "2:1x1x1;", "walk 1 201", impl.ErrRange},
	{"3:1x1x1;", "3:1x1x1;", "equivalent", impl.ErrRange}, {"2:3x1x1;", "2:3x1x1;", "equivalent", impl.ErrRange}, {"2:1x2x1;", "2:2x1x1;", "equivalent", impl.ErrRange},
	{"3:1x1x1;", "2:1x1x1;", "stabiliser", impl.ErrRange}, {"2:1x1x3;", "2:1x1x1;", "stabiliser", impl.ErrRange},
	{"2:2x2x1;", "2:2x2x2;", "repeat 1", impl.ErrRange}, {"2:2x2x2;", "2:2x2x2;", "repeat 9", impl.ErrRange}, {"2:1x1x1;", "2:2x2x2;", "repeat 0", impl.ErrRange},
	{"2:2x2x2;", "2:2x2x2;", "gain 0", impl.ErrRange}, {"2:2x2x2;", "2:2x2x2;", "gain 1001", impl.ErrRange}, {"3:2x3x2;", "2:2x2x2;", "gain 1", impl.ErrRange},
	{expectText(strassen(3)), "2:2x2x2;", "gain 1", impl.ErrNotFound}, {expectText(equalSquare(30)), "2:2x2x2;", "gain 1000", impl.ErrLimit},
}

// equalSquare returns a square scheme with the same product several times.
func equalSquare(count int) impl.Scheme {
	return impl.Scheme{Prime: 2, Rows: 2, Inner: 2, Cols: 2, Products: slices.Repeat([]impl.Product{{A: impl.Form{1}, B: impl.Form{1}, C: impl.Form{1}}}, count)}
}

// codeOf returns the code of the function that a line calls on a desk.
func codeOf(d impl.Desk, line string) int64 {
	for at, way := range lineWays {
		if groups := linePatterns[at].FindStringSubmatch(line); groups != nil {
			word, numbers := givenBy(way, groups)
			_, _, code := way.run(d, word, numbers)
			return code
		}
	}
	return -1
}

// TestLinesThatFunctionsRefuse has all codes that functions of the table return.
func TestLinesThatFunctionsRefuse(t *testing.T) {
	for _, refusal := range refusals {
		d := impl.Desk{First: parsed(t, refusal.first), Second: parsed(t, refusal.second)}
		wantCode(t, fmt.Sprintf("the function of %q on %v", refusal.line, d), codeOf(d, refusal.line), refusal.code)
		wantWrongLine(t, d, refusal.line)
	}
}

func TestSwapTwice(t *testing.T) {
	eachDesk(func(s *sequence, d impl.Desk) {
		once := wantLine(t, d, "swap", expectText(d.Second))
		if !sameDesk(once, impl.Desk{First: d.Second, Second: d.First}) {
			t.Fatalf("swap leads from %v to %v", d, once)
		}
		if twice := wantLine(t, once, "swap", expectText(d.First)); !sameDesk(twice, d) {
			t.Fatalf("swap twice leads from %v to %v", d, twice)
		}
	})
}

func TestResetBehindChanges(t *testing.T) {
	eachDesk(func(s *sequence, d impl.Desk) {
		changed, _ := run(t, d, lineFor(s, d, oneOf(s, commandNames()...)))
		if after := wantLine(t, changed, "reset", "ok"); !sameDesk(after, expectNew()) {
			t.Fatalf("reset leads from %v to %v", changed, after)
		}
	})
}

// TestAskingChangesNothing has the lines that leave the desk as it is, whatever their output is.
func TestAskingChangesNothing(t *testing.T) {
	lines := []string{"show", "other", "products", "correct", "wrong", "equivalent", "stabiliser", "cost", "repeat 2", "gain 7", "needless"}
	eachDesk(func(s *sequence, d impl.Desk) {
		line := oneOf(s, lines...)
		if after, output := run(t, d, line); !sameDesk(after, d) {
			t.Fatalf("%s leads from %v to %v, with the output %q", line, d, after, output)
		}
	})
}
