package tests

import (
	"fmt"
	"runtime"
	"slices"
	"strings"
	"testing"

	"loop.example/g01262/impl"
)

// makeProgram returns the program whose steps and outputs are written as the values of their fields,
// "0 1 1; 2 0 1 > 3 1; 0 0".
func makeProgram(t *testing.T, p, inputs int64, text string) impl.Program {
	t.Helper()
	g := impl.Program{Prime: p, Inputs: inputs}
	steps, outputs, _ := strings.Cut(text, ">")
	for part := range strings.SplitSeq(steps, ";") {
		if strings.TrimSpace(part) == "" {
			continue
		}
		var s impl.Step
		if _, err := fmt.Sscan(part, &s.Left, &s.Right, &s.Factor); err != nil {
			t.Fatal(err)
		}
		g.Steps = append(g.Steps, s)
	}
	for part := range strings.SplitSeq(outputs, ";") {
		var o impl.Output
		if _, err := fmt.Sscan(part, &o.Value, &o.Factor); err != nil {
			t.Fatal(err)
		}
		g.Outputs = append(g.Outputs, o)
	}
	return g
}

// wantProgram tests that a function made a program.
func wantProgram(t *testing.T, what string, g impl.Program, code int64, want impl.Program) {
	t.Helper()
	if code != impl.ErrNone || !sameProgram(g, want) {
		t.Fatalf("%s = %v, %d, want %v", what, g, code, want)
	}
}

func TestProgramsArePrograms(t *testing.T) {
	eachProgram(func(s *sequence, g impl.Program) {
		if !impl.IsProgram(g) || !expectProgram(g) {
			t.Fatalf("IsProgram of %v is false", g)
		}
	})
}

// The programs of these examples were made by hand.
var programExamples = []struct {
	p, n   int64
	lists  [][]int64
	plain  string
	shared string
}{
	{2, 1, [][]int64{{1}}, "> 0 1", "> 0 1"},
	{5, 1, [][]int64{{3}, {0}, {4}}, "> 0 3; 0 0; 0 4", "> 0 3; 0 0; 0 4"},
	{2, 3, [][]int64{{0, 0, 0}}, "> 0 0", "> 0 0"},
	{3, 3, [][]int64{{0, 0, 2}}, "> 2 2", "> 2 2"},
	{2, 3, [][]int64{{1, 1, 0}, {1, 1, 1}}, "0 1 1; 0 1 1; 4 2 1 > 3 1; 5 1", "0 1 1; 2 3 1 > 3 1; 4 1"},
	{5, 3, [][]int64{{0, 2, 3}}, "1 2 4 > 3 2", "1 2 4 > 3 2"},
	{5, 4, [][]int64{{3, 0, 1, 4}}, "0 2 2; 4 3 3 > 5 3", "0 2 2; 4 3 3 > 5 3"},
	// One ratio of different numbers.
	{5, 2, [][]int64{{1, 2}, {2, 4}, {3, 1}, {4, 3}}, "0 1 2; 0 1 2; 0 1 2; 0 1 2 > 2 1; 3 2; 4 3; 5 4", "0 1 2 > 2 1; 2 2; 2 3; 2 4"},
	// Two ratios with two rows each: the lesser one is first.
	{3, 2, [][]int64{{1, 2}, {1, 1}, {2, 1}, {2, 2}}, "0 1 2; 0 1 1; 0 1 2; 0 1 1 > 2 1; 3 1; 4 2; 5 2", "0 1 1; 0 1 2 > 3 1; 2 1; 3 2; 2 2"},
	// The greater ratio has more rows.
	{3, 2, [][]int64{{1, 1}, {1, 2}, {2, 2}, {1, 2}, {2, 1}}, "0 1 1; 0 1 2; 0 1 1; 0 1 2; 0 1 2 > 2 1; 3 1; 4 2; 5 1; 6 2", "0 1 2; 0 1 1 > 3 1; 2 1; 3 2; 2 1; 2 2"},
	// Pairs with the same first value: the lesser second one is first.
	{2, 3, [][]int64{{1, 0, 1}, {1, 1, 0}, {1, 0, 1}, {1, 1, 0}}, "0 2 1; 0 1 1; 0 2 1; 0 1 1 > 3 1; 4 1; 5 1; 6 1", "0 1 1; 0 2 1 > 4 1; 3 1; 4 1; 3 1"},
	// All pairs have as many rows: the least first value is first; new values are behind all others.
	{2, 4, [][]int64{{1, 1, 1, 1}, {1, 1, 1, 1}}, "0 1 1; 4 2 1; 5 3 1; 0 1 1; 7 2 1; 8 3 1 > 6 1; 9 1", "0 1 1; 2 3 1; 4 5 1 > 6 1; 6 1"},
	// The last pair has most rows.
	{2, 3, [][]int64{{1, 1, 1}, {1, 1, 1}, {0, 1, 1}}, "0 1 1; 3 2 1; 0 1 1; 5 2 1; 1 2 1 > 4 1; 6 1; 7 1", "1 2 1; 0 3 1 > 4 1; 4 1; 3 1"},
	// A row cannot use both of two pairs that meet.
	{2, 3, [][]int64{{1, 1, 1}, {1, 1, 0}, {0, 1, 1}}, "0 1 1; 3 2 1; 0 1 1; 1 2 1 > 4 1; 5 1; 6 1", "0 1 1; 2 3 1; 1 2 1 > 4 1; 3 1; 5 1"},
	// What is moved keeps the number of the first value, which need not be 1.
	{5, 3, [][]int64{{2, 4, 1}, {3, 1, 2}, {1, 2, 0}}, "0 1 2; 3 2 3; 0 1 2; 5 2 4; 0 1 2 > 4 2; 6 3; 7 1", "0 1 2; 2 3 2; 2 3 4 > 4 1; 5 2; 3 1"},
	// A row may end as one value.
	{3, 2, [][]int64{{1, 1}, {2, 2}, {0, 0}, {1, 0}}, "0 1 1; 0 1 1 > 2 1; 3 2; 0 0; 0 1", "0 1 1 > 2 1; 2 2; 0 0; 0 1"},
}

func TestProgramsAsExamples(t *testing.T) {
	for _, example := range programExamples {
		set := listSet{"example", example.p, example.n, example.lists}
		wantProgram(t, fmt.Sprint("PlainProgram of ", set), plainOf(t, set), impl.ErrNone, makeProgram(t, example.p, example.n, example.plain))
		wantProgram(t, fmt.Sprint("SharedProgram of ", set), sharedOf(t, set), impl.ErrNone, makeProgram(t, example.p, example.n, example.shared))
	}
}

func TestPlainProgramsStepByStep(t *testing.T) {
	eachListSet(func(s *sequence, set listSet) {
		g := plainOf(t, set)
		wantProgram(t, fmt.Sprint("PlainProgram of ", set), g, impl.ErrNone, expectPlainProgram(set.p, set.n, set.lists))
	})
}

func TestSharedProgramsLookedAtAnew(t *testing.T) {
	eachListSet(func(s *sequence, set listSet) {
		g := sharedOf(t, set)
		wantProgram(t, fmt.Sprint("SharedProgram of ", set), g, impl.ErrNone, expectSharedProgram(set.p, set.n, set.lists))
	})
}

// TestSharedProgramsOfAllSmallLists has all lists of three rows and three numbers modulo 2, and all of two
// rows and three numbers modulo 3.
func TestSharedProgramsOfAllSmallLists(t *testing.T) {
	for p, count := range map[int64]int64{2: 3, 3: 2} {
		for number := range power(p, count*3) {
			set := listSet{"all small lists", p, 3, matrixOf(number, p, count, 3)}
			g := sharedOf(t, set)
			wantProgram(t, fmt.Sprint("SharedProgram of ", set), g, impl.ErrNone, expectSharedProgram(p, 3, set.lists))
		}
	}
}

// TestSharedProgramsManyAtOnce has searches that run side by side.
func TestSharedProgramsManyAtOnce(t *testing.T) {
	s := &sequence{}
	var sets []listSet
	for range 40 {
		sets = append(sets, listSet{"drawn lists", 3, 7, likeLists(s, 3, 9, 7)})
	}
	made := make([]impl.Program, len(sets))
	done := make(chan int)
	for at, set := range sets {
		go func() {
			made[at], _ = impl.SharedProgram(set.p, set.n, set.lists)
			done <- at
		}()
	}
	for range sets {
		at := <-done
		wantProgram(t, "SharedProgram", made[at], impl.ErrNone, expectSharedProgram(3, 7, sets[at].lists))
	}
}

// TestSearchesEnd tests that calls leave no goroutine behind.
func TestSearchesEnd(t *testing.T) {
	before := runtime.NumGoroutine()
	for range 200 {
		sharedOf(t, listSet{"ones", 2, 4, constantLists(1, 3, 4)})
		steps(t, strassen(3), true)
	}
	wantGoroutines(t, before)
}

func TestProgramsValueByValue(t *testing.T) {
	eachProgram(func(s *sequence, g impl.Program) {
		inputs := someList(s, g.Prime, g.Inputs)
		outputs, code := impl.RunProgram(g, inputs)
		wantCode(t, "RunProgram", code, impl.ErrNone)
		wantSame(t, fmt.Sprint("RunProgram of ", g, inputs), outputs, expectOutputs(g, inputs))
		wantForms(t, "a drawn program", g, expectForms(g))
	})
}

// runExamples were found by hand.
var runExamples = []struct {
	p, n    int64
	program string
	inputs  []int64
	outputs []int64
	forms   [][]int64
	depths  []int64
}{
	{2, 1, "> 0 1; 0 0", []int64{1}, []int64{1, 0}, [][]int64{{1}, {0}}, []int64{0, 0}},
	{5, 1, "> 0 1; 0 4; 0 0; 0 2", []int64{3}, []int64{3, 2, 0, 1}, [][]int64{{1}, {4}, {0}, {2}}, []int64{0, 0, 0, 0}},
	{3, 2, "> 1 2; 0 1", []int64{1, 2}, []int64{1, 1}, [][]int64{{0, 2}, {1, 0}}, []int64{0, 0}},
	{2, 3, "0 1 1; 2 3 1 > 3 1; 4 1; 0 0", []int64{1, 0, 1}, []int64{1, 0, 0}, [][]int64{{1, 1, 0}, {1, 1, 1}, {0, 0, 0}}, []int64{1, 2, 0}},
	{5, 2, "0 1 3; 2 0 4; 1 3 2 > 2 1; 3 2; 4 4; 1 1", []int64{4, 3}, []int64{3, 3, 4, 3}, [][]int64{{1, 3}, {0, 1}, {0, 3}, {0, 1}}, []int64{1, 2, 3, 0}},
	// A value of the depth 3 and one of the depth 1, on either side.
	{3, 3, "0 1 1; 3 2 1; 4 0 1; 1 2 2; 5 6 1; 6 5 2 > 7 1; 8 1; 6 1; 5 1; 0 0; 2 1", []int64{1, 1, 2}, []int64{1, 0, 2, 2, 0, 2},
		[][]int64{{2, 2, 0}, {1, 0, 1}, {0, 1, 2}, {2, 1, 1}, {0, 0, 0}, {0, 0, 1}}, []int64{4, 4, 1, 3, 0, 0}},
	// A value that is 0 for all inputs.
	{2, 2, "0 1 1; 2 1 1; 3 0 1 > 4 1; 3 1", []int64{1, 1}, []int64{0, 1}, [][]int64{{0, 0}, {1, 0}}, []int64{3, 2}},
}

func TestRunsAsExamples(t *testing.T) {
	for _, example := range runExamples {
		g := makeProgram(t, example.p, example.n, example.program)
		outputs, code := impl.RunProgram(g, example.inputs)
		wantCode(t, "RunProgram of "+example.program, code, impl.ErrNone)
		wantSame(t, "RunProgram of "+example.program, outputs, example.outputs)
		wantForms(t, example.program, g, example.forms)
		wantDepths(t, g, example.depths)
	}
}

func wantDepths(t *testing.T, g impl.Program, want []int64) {
	t.Helper()
	depths, code := impl.DepthsOf(g)
	if code != impl.ErrNone || !slices.Equal(depths, want) {
		t.Fatalf("DepthsOf of %v = %v, %d, want %v", g, depths, code, want)
	}
}

func TestDepthsStepByStep(t *testing.T) {
	eachProgram(func(s *sequence, g impl.Program) { wantDepths(t, g, expectDepths(g)) })
	eachSmallListSet(func(s *sequence, set listSet) {
		plain, shared := plainOf(t, set), sharedOf(t, set)
		wantDepths(t, shared, expectDepths(shared))
		var weights []int64
		for _, list := range set.lists {
			weights = append(weights, max(0, int64(len(list)-howOften(list, 0)-1)))
		}
		wantDepths(t, plain, weights)
	})
}

// howOften returns how often a list has a number.
func howOften(list []int64, number int64) int {
	count := 0
	for _, other := range list {
		if other == number {
			count++
		}
	}
	return count
}

// TestDepthsOfChains has the greatest depths that there can be, on either side.
func TestDepthsOfChains(t *testing.T) {
	for _, back := range []bool{false, true} {
		g := impl.Program{Prime: 3, Inputs: 2}
		for i := range int64(impl.MaxSteps) {
			s := impl.Step{Left: 1 + i, Right: 0, Factor: 2}
			if back {
				s.Left, s.Right = s.Right, s.Left
			}
			g.Steps = append(g.Steps, s)
		}
		g.Outputs = []impl.Output{{Value: impl.MaxSteps + 1, Factor: 2}, {Value: 1, Factor: 1}, {Value: 2, Factor: 1}, {}}
		wantDepths(t, g, []int64{impl.MaxSteps, 0, 1, 0})
		if made := withoutNeedless(t, g); !sameProgram(made, g) {
			t.Fatalf("WithoutNeedless of a chain = %v", made)
		}
	}
}

func TestWithoutNeedlessOneByOne(t *testing.T) {
	eachProgram(func(s *sequence, g impl.Program) {
		made, code := impl.WithoutNeedless(g)
		wantProgram(t, fmt.Sprint("WithoutNeedless of ", g), made, code, expectWithout(g))
	})
}

func TestWithoutNeedlessAsExamples(t *testing.T) {
	for _, example := range []struct{ program, want string }{
		{"> 0 0", "> 0 0"},
		{"> 1 2", "> 1 2"},
		{"0 1 1 > 0 0", "> 0 0"},
		{"0 1 1 > 1 1; 0 0; 0 2", "> 1 1; 0 0; 0 2"},
		{"0 1 1 > 2 1", "0 1 1 > 2 1"},
		{"0 1 1; 0 1 2 > 3 2", "0 1 2 > 2 2"},
		{"0 1 1; 0 1 2 > 2 2", "0 1 1 > 2 2"},
		// Steps that needless steps alone use.
		{"0 1 1; 2 0 1; 3 1 2 > 0 1", "> 0 1"},
		{"0 1 1; 2 0 1; 3 1 2; 2 1 1 > 5 1", "0 1 1; 2 1 1 > 3 1"},
		{"0 1 1; 1 0 1; 2 3 2; 4 3 1; 5 4 1 > 3 1; 0 0", "1 0 1 > 2 1; 0 0"},
		// Steps that needless steps use, and others too.
		{"0 1 1; 2 0 1; 2 1 1; 3 4 2 > 4 2; 2 1", "0 1 1; 2 1 1 > 3 2; 2 1"},
		// Needless steps between and at the ends; equal steps are not made one.
		{"1 0 2; 0 1 1; 0 1 1; 3 4 1; 0 1 2; 5 3 2; 0 1 1 > 7 1; 5 2", "0 1 1; 0 1 1; 2 3 1; 4 2 2 > 5 1; 4 2"},
		// A value that is 0 for all inputs is needed all the same, and so are its steps.
		{"0 1 1; 2 1 2; 3 0 2 > 4 1", "0 1 1; 2 1 2; 3 0 2 > 4 1"},
	} {
		made, code := impl.WithoutNeedless(makeProgram(t, 3, 2, example.program))
		wantProgram(t, "WithoutNeedless of "+example.program, made, code, makeProgram(t, 3, 2, example.want))
	}
}

// TestInputsStayNeedless tests that inputs that nothing uses stay, with their numbers.
func TestInputsStayNeedless(t *testing.T) {
	made, code := impl.WithoutNeedless(makeProgram(t, 5, 30, "0 1 4; 28 3 2; 31 30 1; 31 7 3 > 33 4; 29 1"))
	wantProgram(t, "WithoutNeedless", made, code, makeProgram(t, 5, 30, "28 3 2; 30 7 3 > 31 4; 29 1"))
}

func TestProgramsOfSchemes(t *testing.T) {
	eachSchemeToRun(func(s *sequence, x impl.Scheme) {
		for _, shared := range []bool{false, true} {
			want := expectPrograms(x, shared)
			for at, g := range programsOf(t, x, shared) {
				wantProgram(t, fmt.Sprint("ProgramsOf of ", x, shared, at), g, impl.ErrNone, want[at])
			}
		}
	})
}

// TestProgramsOfSchemesAreThoseOfLists tests that the three programs are those of the lists.
func TestProgramsOfSchemesAreThoseOfLists(t *testing.T) {
	eachSchemeToRun(func(s *sequence, x impl.Scheme) {
		lists := expectLists(x)
		for at := range lists {
			set := listSet{"a scheme", x.Prime, int64(len(lists[at][0])), lists[at]}
			wantProgram(t, "ProgramsOf", programsOf(t, x, false)[at], impl.ErrNone, plainOf(t, set))
			wantProgram(t, "ProgramsOf", programsOf(t, x, true)[at], impl.ErrNone, sharedOf(t, set))
		}
	})
}

func TestProgramsOfSchemesAsExamples(t *testing.T) {
	for _, example := range []struct {
		x             impl.Scheme
		plain, shared []string
	}{
		{makeScheme(5, 1, 1, 1, "2 3 4"), []string{"> 0 2", "> 0 3", "> 0 4"}, []string{"> 0 2", "> 0 3", "> 0 4"}},
		{makeScheme(3, 1, 2, 1, "12 10 1; 21 01 2"),
			[]string{"0 1 2; 0 1 2 > 2 1; 3 2", "> 0 1; 1 1", "0 1 2 > 2 1"},
			[]string{"0 1 2 > 2 1; 2 2", "> 0 1; 1 1", "0 1 2 > 2 1"}},
		{makeScheme(2, 2, 1, 2, "11 11 1010; 10 01 0101"),
			[]string{"0 1 1 > 2 1; 0 1", "0 1 1 > 2 1; 1 1", "> 0 1; 1 1; 0 1; 1 1"},
			[]string{"0 1 1 > 2 1; 0 1", "0 1 1 > 2 1; 1 1", "> 0 1; 1 1; 0 1; 1 1"}},
	} {
		for at := range 3 {
			n := []int64{example.x.Rows * example.x.Inner, example.x.Inner * example.x.Cols, int64(len(example.x.Products))}[at]
			wantProgram(t, "ProgramsOf, plain", programsOf(t, example.x, false)[at], impl.ErrNone, makeProgram(t, example.x.Prime, n, example.plain[at]))
			wantProgram(t, "ProgramsOf, shared", programsOf(t, example.x, true)[at], impl.ErrNone, makeProgram(t, example.x.Prime, n, example.shared[at]))
		}
	}
}

// The numbers of steps were found by hand: shared, winograd needs 15 in all, and strassen 18.
func TestStepsOfKnownSchemes(t *testing.T) {
	for _, p := range primes {
		for _, example := range []struct {
			x             impl.Scheme
			plain, shared []int64
		}{
			{strassen(p), []int64{5, 5, 8}, []int64{5, 5, 8}},
			{winograd(p), []int64{7, 7, 10}, []int64{4, 4, 7}},
			{expectStandard(p, 2, 2, 2), []int64{0, 0, 4}, []int64{0, 0, 4}},
			{expectStandard(p, 2, 3, 1), []int64{0, 0, 4}, []int64{0, 0, 4}},
			{fullScheme(p, 2, 1), []int64{3, 3, 0}, []int64{3, 3, 0}},
			{fullScheme(p, 3, 30), []int64{240, 240, 261}, []int64{8, 8, 29}},
		} {
			wantSame(t, "StepsOf, plain", steps(t, example.x, false), example.plain)
			wantSame(t, "StepsOf, shared", steps(t, example.x, true), example.shared)
		}
	}
}
