package tests

import (
	"fmt"
	"regexp"
	"strconv"
	"strings"

	"loop.example/g01262/impl"
)

// The functions of this file say again what chapter 11 says: lines are found by patterns, and what they do by calls
// of the functions of the other chapters.

// expectNew returns the new desk.
func expectNew() impl.Desk {
	return impl.Desk{First: strassen(2), Second: expectStandard(2, 1, 2, 2)}
}

// lineWay is a line of the table. In its pattern N stands for a number, W for a word, and T for the rest of the line.
type lineWay struct {
	pattern string
	run     func(d impl.Desk, word string, n []int64) (impl.Desk, any, int64)
}

// becomes returns what makes a scheme the first one of a desk, and puts it out.
func becomes(d impl.Desk) func(x impl.Scheme, code int64) (impl.Desk, any, int64) {
	return func(x impl.Scheme, code int64) (impl.Desk, any, int64) {
		return impl.Desk{First: x, Second: d.Second}, x, code
	}
}

// tells returns what puts out a result, and leaves a desk as it is.
func tells(d impl.Desk) func(result any, code int64) (impl.Desk, any, int64) {
	return func(result any, code int64) (impl.Desk, any, int64) { return d, result, code }
}

// ofOne and ofTwo return the lines of functions of the first scheme of a desk, and of both.
func ofOne(pattern string, run func(x impl.Scheme) (impl.Scheme, int64)) lineWay {
	return lineWay{pattern, func(d impl.Desk, word string, n []int64) (impl.Desk, any, int64) { return becomes(d)(run(d.First)) }}
}

func ofTwo(pattern string, run func(x, y impl.Scheme) (impl.Scheme, int64)) lineWay {
	return lineWay{pattern, func(d impl.Desk, word string, n []int64) (impl.Desk, any, int64) {
		return becomes(d)(run(d.First, d.Second))
	}}
}

// asking returns the lines that leave the desk as it is.
func asking(pattern string, run func(d impl.Desk, n []int64) (any, int64)) lineWay {
	return lineWay{pattern, func(d impl.Desk, word string, n []int64) (impl.Desk, any, int64) { return tells(d)(run(d, n)) }}
}

// making returns the lines that make the first scheme anew from words and numbers.
func making(pattern string, run func(d impl.Desk, word string, n []int64) (impl.Scheme, int64)) lineWay {
	return lineWay{pattern, func(d impl.Desk, word string, n []int64) (impl.Desk, any, int64) {
		return becomes(d)(run(d, word, n))
	}}
}

// lineWays are all lines of the table, in its order.
var lineWays = []lineWay{
	making("first T", func(d impl.Desk, text string, n []int64) (impl.Scheme, int64) { return impl.ParseScheme(text) }),
	{"second T", func(d impl.Desk, text string, n []int64) (impl.Desk, any, int64) {
		y, code := impl.ParseScheme(text)
		return impl.Desk{First: d.First, Second: y}, y, code
	}},
	making("standard N N N N", func(d impl.Desk, w string, n []int64) (impl.Scheme, int64) {
		return impl.StandardScheme(n[0], n[1], n[2], n[3])
	}),
	making("known W N", func(d impl.Desk, name string, n []int64) (impl.Scheme, int64) { return impl.KnownScheme(name, n[0]) }),
	making("small N N N N", func(d impl.Desk, w string, n []int64) (impl.Scheme, int64) {
		return impl.JoinScheme(n[0], n[1], n[2], n[3])
	}),
	{"swap", func(d impl.Desk, w string, n []int64) (impl.Desk, any, int64) {
		return impl.Desk{First: d.Second, Second: d.First}, d.Second, impl.ErrNone
	}},
	ofTwo("rows", impl.JoinRows), ofTwo("inner", impl.JoinInner), ofTwo("cols", impl.JoinCols), ofTwo("times", impl.MultiplySchemes),
	making("restrict N N N", func(d impl.Desk, w string, n []int64) (impl.Scheme, int64) {
		return impl.RestrictScheme(d.First, n[0], n[1], n[2])
	}),
	ofOne("sort", impl.SortScheme),
	making("without N", func(d impl.Desk, w string, n []int64) (impl.Scheme, int64) { return impl.WithoutProduct(d.First, n[0]) }),
	ofOne("turn", impl.TurnScheme), ofOne("transpose", impl.TransposeScheme), ofOne("scaled", impl.ScaledScheme),
	ofOne("merge", impl.MergeScheme),
	ofOne("complete", func(x impl.Scheme) (impl.Scheme, int64) {
		return impl.CompletePairs(x.Prime, x.Rows, x.Inner, x.Cols, expectPairsOf(x))
	}),
	making("walk N N", func(d impl.Desk, w string, n []int64) (impl.Scheme, int64) {
		return impl.WalkScheme(d.First, n[0], n[1])
	}),
	asking("show", func(d impl.Desk, n []int64) (any, int64) { return d.First, impl.ErrNone }),
	asking("other", func(d impl.Desk, n []int64) (any, int64) { return d.Second, impl.ErrNone }),
	asking("products", func(d impl.Desk, n []int64) (any, int64) { return int64(len(d.First.Products)), impl.ErrNone }),
	asking("correct", func(d impl.Desk, n []int64) (any, int64) { return pack(impl.IsCorrect(d.First)) }),
	asking("wrong", func(d impl.Desk, n []int64) (any, int64) { return pack(impl.CountWrong(d.First)) }),
	asking("equivalent", func(d impl.Desk, n []int64) (any, int64) { return pack(impl.AreEquivalent(d.First, d.Second)) }),
	asking("stabiliser", func(d impl.Desk, n []int64) (any, int64) { return pack(impl.StabiliserNumber(d.First)) }),
	asking("cost", func(d impl.Desk, n []int64) (any, int64) { return pack(impl.CostOf(d.First)) }),
	asking("repeat N", func(d impl.Desk, n []int64) (any, int64) { return pack(impl.RepeatedCost(d.First, n[0])) }),
	asking("gain N", func(d impl.Desk, n []int64) (any, int64) { return pack(impl.FirstGain(d.First, n[0])) }),
	asking("needless", func(d impl.Desk, n []int64) (any, int64) { return pack(impl.NeedlessProducts(d.First)) }),
	{"reset", func(d impl.Desk, w string, n []int64) (impl.Desk, any, int64) { return expectNew(), "ok", impl.ErrNone }},
}

// expectOutput returns how a result is put out.
func expectOutput(result any) string {
	switch made := result.(type) {
	case impl.Scheme:
		return expectText(made)
	case bool:
		return map[bool]string{false: "no", true: "yes"}[made]
	case []int64:
		if len(made) == 0 {
			return "none"
		}
		return strings.Trim(fmt.Sprint(made), "[]")
	}
	return fmt.Sprint(result)
}

// commandOf returns the command of a line of the table.
func (way lineWay) commandOf() string { return strings.Fields(way.pattern)[0] }

// linePattern returns what matches the whole of such lines, each number and word as a group.
func linePattern(way lineWay) *regexp.Regexp {
	text := way.commandOf()
	for _, part := range strings.Fields(way.pattern)[1:] {
		text += " " + map[string]string{"N": "(0|[1-9][0-9]{0,9})", "W": "([^ ]*)", "T": "(.*)"}[part]
	}
	return regexp.MustCompile(`(?s)\A` + text + `\z`)
}

var linePatterns = func() []*regexp.Regexp {
	var list []*regexp.Regexp
	for _, way := range lineWays {
		list = append(list, linePattern(way))
	}
	return list
}()

// givenBy returns the word and the numbers that the pattern of a line found.
func givenBy(way lineWay, groups []string) (word string, numbers []int64) {
	for i, part := range strings.Fields(way.pattern)[1:] {
		if part != "N" {
			word = groups[i+1]
			continue
		}
		number, _ := strconv.Atoi(groups[i+1])
		numbers = append(numbers, int64(number))
	}
	return word, numbers
}

// expectLine returns the desk after a line, and the output.
func expectLine(d impl.Desk, line string) (impl.Desk, string) {
	for at, way := range lineWays {
		groups := linePatterns[at].FindStringSubmatch(line)
		if groups == nil {
			continue
		}
		word, numbers := givenBy(way, groups)
		after, result, code := way.run(d, word, numbers)
		if code != impl.ErrNone {
			return d, "error"
		}
		return after, expectOutput(result)
	}
	return d, "error"
}

// expectLines returns the lines of a text, byte by byte.
func expectLines(text string) []string {
	var lines []string
	open := false
	for at := range len(text) {
		if !open {
			lines = append(lines, "")
		}
		open = text[at] != 10
		if open {
			lines[len(lines)-1] += text[at : at+1]
		}
	}
	return lines
}

// expectConsole returns the desk after a text, the outputs, and false if the text is refused.
func expectConsole(text string) (impl.Desk, string, bool) {
	if len(text) > 4000 || len(expectLines(text)) > 40 {
		return impl.Desk{}, "", false
	}
	d, outputs := expectNew(), ""
	for _, line := range expectLines(text) {
		if line != "" {
			after, output := expectLine(d, line)
			d, outputs = after, outputs+output+"\n"
		}
	}
	return d, outputs, true
}
