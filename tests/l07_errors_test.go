package tests

import (
	"fmt"
	"slices"
	"testing"

	"loop.example/g01262/impl"
)

// longProgram returns a program of two inputs with so many steps and outputs, all good.
func longProgram(p int64, steps, outputs int) impl.Program {
	g := impl.Program{Prime: p, Inputs: 2}
	for i := range steps {
		g.Steps = append(g.Steps, impl.Step{Left: int64(i), Right: int64(i) + 1, Factor: 1})
	}
	for range outputs {
		g.Outputs = append(g.Outputs, impl.Output{Value: 1, Factor: 1})
	}
	return g
}

// withStep returns a program of three inputs and five steps, one of which, and the outputs, are given.
func withStep(p int64, at int, step impl.Step, outputs ...impl.Output) impl.Program {
	g := impl.Program{Prime: p, Inputs: 3, Outputs: append([]impl.Output{{Value: 7, Factor: 1}}, outputs...)}
	for i := range int64(5) {
		g.Steps = append(g.Steps, impl.Step{Left: i, Right: i + 2, Factor: p - 1})
	}
	g.Steps[at] = step
	return g
}

// notValues returns numbers of no values of a program with so many of them; some are one in their lowest
// bytes.
func notValues(count int64) []int64 {
	return []int64{-1, -2, count, count + 1, 256, 1 << 32, 1<<32 + 1, 1<<63 - 1, -1 << 63}
}

// notPrograms returns programs that break one condition each, by the name of what is wrong.
func notPrograms() map[string]impl.Program {
	one := []impl.Output{{Value: 0, Factor: 1}}
	list := map[string]impl.Program{
		"everything 0":       {},
		"one input, a step":  {Prime: 2, Inputs: 1, Steps: []impl.Step{{Left: 0, Right: 0, Factor: 1}}, Outputs: one},
		"a step behind it":   {Prime: 2, Inputs: 1, Steps: []impl.Step{{Left: 0, Right: 1, Factor: 1}}, Outputs: one},
		"a step of itself":   {Prime: 2, Inputs: 1, Steps: []impl.Step{{Left: 1, Right: 0, Factor: 1}}, Outputs: one},
		"no outputs":         longProgram(3, 3, 0),
		"too many outputs":   longProgram(3, 3, impl.MaxInputs+1),
		"1000 outputs":       longProgram(3, 3, 1000),
		"too many steps":     longProgram(5, impl.MaxSteps+1, 1),
		"10000 steps":        longProgram(5, 10000, 1),
		"an output too far":  {Prime: 2, Inputs: 2, Outputs: []impl.Output{{Value: 2, Factor: 1}}},
		"outputs of nothing": {Prime: 2, Inputs: 30, Outputs: []impl.Output{{Value: 30, Factor: 0}}},
	}
	for _, p := range notPrimes {
		list[fmt.Sprint("the prime ", p)] = impl.Program{Prime: p, Inputs: 1, Outputs: []impl.Output{{}}}
		list[fmt.Sprint("a step and the prime ", p)] = longProgram(p, 1, 1)
	}
	for _, n := range []int64{0, impl.MaxInputs + 1, -1, -30, 256, 257, 1 << 32, 1<<32 + 1, 1<<63 - 1, -1 << 63} {
		list[fmt.Sprint(n, " inputs")] = impl.Program{Prime: 2, Inputs: n, Outputs: one}
		list[fmt.Sprint(n, " inputs without a factor")] = impl.Program{Prime: 3, Inputs: n, Outputs: []impl.Output{{}}}
	}
	for _, p := range primes {
		for at := range 5 {
			addWrongSteps(list, p, at)
		}
		for _, value := range notValues(8) {
			list[fmt.Sprint("an output of the value ", value, " modulo ", p)] = withStep(p, 0, impl.Step{Left: 0, Right: 1, Factor: 1}, impl.Output{Value: value, Factor: p - 1})
		}
		for _, factor := range notNumbers(p) {
			list[fmt.Sprint("an output with the factor ", factor, " modulo ", p)] = withStep(p, 0, impl.Step{Left: 0, Right: 1, Factor: 1}, impl.Output{Value: 0, Factor: factor})
		}
		for _, value := range append(notValues(8), 1, 2, 3, 7) {
			list[fmt.Sprint("an output without a factor of the value ", value, " modulo ", p)] = withStep(p, 0, impl.Step{Left: 0, Right: 1, Factor: 1}, impl.Output{Value: value, Factor: 0})
		}
	}
	return list
}

// addWrongSteps adds programs in which one step is none.
func addWrongSteps(list map[string]impl.Program, p int64, at int) {
	ahead := int64(3 + at)
	add := func(s impl.Step) { list[fmt.Sprint("the step ", s, " at ", at, " modulo ", p)] = withStep(p, at, s) }
	for _, value := range notValues(ahead) {
		add(impl.Step{Left: value, Right: 0, Factor: 1})
		add(impl.Step{Left: 0, Right: value, Factor: 1})
	}
	for value := range ahead {
		add(impl.Step{Left: value, Right: value, Factor: p - 1})
	}
	for _, factor := range append(notNumbers(p), 0) {
		add(impl.Step{Left: 0, Right: ahead - 1, Factor: factor})
	}
}

func TestNoPrograms(t *testing.T) {
	for name, g := range notPrograms() {
		if impl.IsProgram(g) || expectProgram(g) {
			t.Errorf("IsProgram of a program with %s is true: %v", name, g)
		}
	}
}

// TestProgramsAtTheirLimits has the greatest and the least numbers of everything.
func TestProgramsAtTheirLimits(t *testing.T) {
	s := &sequence{}
	for _, p := range primes {
		most := someProgram(s, p, impl.MaxInputs, impl.MaxSteps, impl.MaxInputs)
		for name, g := range map[string]impl.Program{
			"one of everything":      {Prime: p, Inputs: 1, Outputs: []impl.Output{{}}},
			"the most of everything": most,
			"the most steps":         longProgram(p, impl.MaxSteps, 1),
			"the most outputs":       longProgram(p, 0, impl.MaxInputs),
			"the last value": withStep(p, 4, impl.Step{Left: 6, Right: 0, Factor: 1},
				impl.Output{Value: 7, Factor: p - 1}, impl.Output{}, impl.Output{Value: 0, Factor: 1}),
			"steps with the factor 1":     withStep(p, 4, impl.Step{Left: 0, Right: 6, Factor: 1}),
			"steps with the factor p - 1": withStep(p, 0, impl.Step{Left: 2, Right: 1, Factor: p - 1}),
			"a needless step":             withStep(p, 4, impl.Step{Left: 5, Right: 4, Factor: 1}),
		} {
			if !impl.IsProgram(g) {
				t.Fatalf("IsProgram of a program with %s is false: %v", name, g)
			}
			wantForms(t, name, g, expectForms(g))
			wantOutputs(t, g, someList(s, p, g.Inputs))
			wantDepths(t, g, expectDepths(g))
			made := withoutNeedless(t, g)
			wantProgram(t, name, made, impl.ErrNone, expectWithout(g))
		}
	}
}

// programCall is a call of a function of chapter 7 with a program.
type programCall struct {
	name string
	run  func(g impl.Program) (any, int64)
}

// programCalls returns calls that are good for programs of three inputs.
func programCalls() []programCall {
	return []programCall{
		{"RunProgram", func(g impl.Program) (any, int64) { return pack(impl.RunProgram(g, []int64{1, 0, 1})) }},
		{"FormsOf", func(g impl.Program) (any, int64) { return pack(impl.FormsOf(g)) }},
		{"DepthsOf", func(g impl.Program) (any, int64) { return pack(impl.DepthsOf(g)) }},
		{"WithoutNeedless", func(g impl.Program) (any, int64) { return pack(impl.WithoutNeedless(g)) }},
	}
}

// badProgramCalls returns calls each of which would have an error of its own.
func badProgramCalls() []programCall {
	var calls []programCall
	for _, inputs := range [][]int64{nil, {0, 1, 0, 1}, make([]int64, 31), {5, 0, 0}, {0, -1, 0}, {0, 0, 1<<63 - 1}} {
		calls = append(calls, programCall{fmt.Sprint("RunProgram of ", inputs), func(g impl.Program) (any, int64) { return pack(impl.RunProgram(g, inputs)) }})
	}
	return calls
}

// TestProgramsInvalidComesFirst tests that ErrInvalid is told ahead of what is wrong with the inputs.
func TestProgramsInvalidComesFirst(t *testing.T) {
	for name, g := range notPrograms() {
		for _, call := range append(programCalls(), badProgramCalls()...) {
			result, code := call.run(g)
			wantError(t, call.name+" of a program with "+name, result, code, impl.ErrInvalid)
		}
	}
}

func TestInputsOfNoProgram(t *testing.T) {
	eachProgram(func(s *sequence, g impl.Program) {
		good := someList(s, g.Prime, g.Inputs)
		wrong := [][]int64{good[1:], append(slices.Clone(good), 0), slices.Concat(good, good), make([]int64, 1000)}
		for at := range good {
			for _, number := range notNumbers(g.Prime) {
				list := slices.Clone(good)
				list[at] = number
				wrong = append(wrong, list)
			}
		}
		for _, inputs := range wrong {
			outputs, code := impl.RunProgram(g, inputs)
			wantError(t, fmt.Sprint("RunProgram of ", inputs), outputs, code, impl.ErrRange)
		}
		_, code := impl.RunProgram(g, good)
		wantCode(t, "RunProgram", code, impl.ErrNone)
	})
}

// makers are the functions that make programs of lists.
var makers = []struct {
	name string
	run  func(p, n int64, lists [][]int64) (impl.Program, int64)
}{
	{"PlainProgram", impl.PlainProgram}, {"SharedProgram", impl.SharedProgram},
}

// wantNoProgram tests that there is no program, plain or shared, of lists.
func wantNoProgram(t *testing.T, p, n int64, lists [][]int64) {
	t.Helper()
	for _, maker := range makers {
		g, code := maker.run(p, n, lists)
		wantError(t, fmt.Sprint(maker.name, " of ", p, n, lists), g, code, impl.ErrRange)
	}
}

func TestProgramsOfNoPrimes(t *testing.T) {
	for _, p := range notPrimes {
		wantNoProgram(t, p, 1, [][]int64{{0}})
		wantNoProgram(t, p, 2, [][]int64{{0, 1}, {1, 1}})
	}
}

func TestProgramsOfNoInputs(t *testing.T) {
	s := &sequence{}
	for _, p := range primes {
		for _, n := range []int64{0, impl.MaxInputs + 1, -1, -30, 256, 257, 1 << 32, 1<<32 + 1, 1<<63 - 1, -1 << 63} {
			wantNoProgram(t, p, n, nil)
			wantNoProgram(t, p, n, [][]int64{nil})
			wantNoProgram(t, p, n, [][]int64{{0}})
			wantNoProgram(t, p, n, someMatrix(s, p, 3, min(max(n, 0), 300)))
		}
	}
}

func TestProgramsOfNoLists(t *testing.T) {
	s := &sequence{}
	for _, p := range primes {
		for _, n := range []int64{1, 2, impl.MaxInputs} {
			wantNoProgram(t, p, n, nil)
			wantNoProgram(t, p, n, [][]int64{})
			for _, count := range []int64{impl.MaxInputs + 1, 64, 256, 1000} {
				wantNoProgram(t, p, n, someMatrix(s, p, count, n))
			}
			for _, count := range []int64{1, impl.MaxInputs} {
				for _, maker := range makers {
					g, code := maker.run(p, n, someMatrix(s, p, count, n))
					wantCode(t, maker.name, code, impl.ErrNone)
					wantSame(t, maker.name+": IsProgram", impl.IsProgram(g), true)
				}
			}
		}
	}
}

func TestProgramsOfWrongLists(t *testing.T) {
	s := &sequence{}
	for _, p := range primes {
		for _, shape := range listShapes {
			count, n := shape[0], shape[1]
			for at := range count {
				shorter, longer := someMatrix(s, p, count, n), someMatrix(s, p, count, n)
				shorter[at] = shorter[at][1:]
				longer[at] = append(longer[at], 0)
				wantNoProgram(t, p, n, shorter)
				wantNoProgram(t, p, n, longer)
				for _, number := range notNumbers(p) {
					wrong := someMatrix(s, p, count, n)
					wrong[at][s.below(n)] = number
					wantNoProgram(t, p, n, wrong)
				}
			}
			wantNoProgram(t, p, n+1, someMatrix(s, p, count, n))
			wantNoProgram(t, p, n-1, someMatrix(s, p, count, n))
			wantNoProgram(t, p, n, append(someMatrix(s, p, count, n), nil))
		}
	}
}

// runCalls returns calls with a scheme, with good matrices for the sizes 2, 2 and 2.
func runCalls() []schemeCall {
	var calls []schemeCall
	for _, shared := range []bool{false, true} {
		calls = append(calls,
			schemeCall{fmt.Sprint("ProgramsOf, shared ", shared), func(x impl.Scheme) (any, int64) { return pack(impl.ProgramsOf(x, shared)) }},
			schemeCall{fmt.Sprint("StepsOf, shared ", shared), func(x impl.Scheme) (any, int64) { return pack(impl.StepsOf(x, shared)) }},
			schemeCall{fmt.Sprint("RunScheme, shared ", shared), func(x impl.Scheme) (any, int64) {
				return pack(impl.RunScheme(x, shared, [][]int64{{1, 0}, {0, 1}}, [][]int64{{1, 1}, {0, 1}}))
			}},
		)
	}
	return calls
}

// badRunCalls returns calls each of which would have an error of its own.
func badRunCalls() []schemeCall {
	good := [][]int64{{1, 0}, {0, 1}}
	var calls []schemeCall
	for _, wrong := range [][][]int64{nil, {nil}, {{1, 0}}, {{1, 0}, {0}}, {{5, 0}, {0, 1}}, {{1, 0}, {0, -1}}, {{1, 0, 0}, {0, 1, 0}}} {
		for _, shared := range []bool{false, true} {
			calls = append(calls,
				schemeCall{fmt.Sprint("RunScheme of the left ", wrong), func(x impl.Scheme) (any, int64) { return pack(impl.RunScheme(x, shared, wrong, good)) }},
				schemeCall{fmt.Sprint("RunScheme of the right ", wrong), func(x impl.Scheme) (any, int64) { return pack(impl.RunScheme(x, shared, good, wrong)) }},
				schemeCall{fmt.Sprint("RunScheme of ", wrong, " twice"), func(x impl.Scheme) (any, int64) { return pack(impl.RunScheme(x, shared, wrong, wrong)) }},
			)
		}
	}
	return calls
}

// TestProgramsOfNoSchemes tests that ErrInvalid comes first. notSchemes has some without products.
func TestProgramsOfNoSchemes(t *testing.T) {
	for name, x := range notSchemes() {
		for _, call := range append(runCalls(), badRunCalls()...) {
			result, code := call.run(x)
			wantError(t, call.name+" of a scheme with "+name, result, code, impl.ErrInvalid)
		}
	}
}

// TestProgramsWithoutProducts tests that schemes without products are ErrState, but that matrices that are
// none are told first.
func TestProgramsWithoutProducts(t *testing.T) {
	for _, p := range primes {
		for _, call := range runCalls() {
			result, code := call.run(fullScheme(p, 2, 0))
			wantError(t, call.name+" without products", result, code, impl.ErrState)
			_, code = call.run(fullScheme(p, 2, 1))
			wantCode(t, call.name+" of one product", code, impl.ErrNone)
			_, code = call.run(fullScheme(p, 2, impl.MaxProducts))
			wantCode(t, call.name+" of the most products", code, impl.ErrNone)
		}
		for _, products := range []int{0, 1, impl.MaxProducts} {
			for _, call := range badRunCalls() {
				result, code := call.run(fullScheme(p, 2, products))
				wantError(t, fmt.Sprint(call.name, " and ", products, " products"), result, code, impl.ErrRange)
			}
		}
	}
}

// TestRunsOfNoMatrices has all sizes, schemes with and without products, and everything that is no matrix.
func TestRunsOfNoMatrices(t *testing.T) {
	s := &sequence{}
	eachSize(func(p, n, m, k int64) {
		left, right := someMatrix(s, p, n, m), someMatrix(s, p, m, k)
		for _, products := range []int{0, 3} {
			x := someScheme(s, p, n, m, k, products)
			for _, shared := range []bool{false, true} {
				for _, wrong := range notMatrices(p, n, m) {
					made, code := impl.RunScheme(x, shared, wrong, right)
					wantError(t, fmt.Sprint("RunScheme of the left ", wrong, " by ", x), made, code, impl.ErrRange)
				}
				for _, wrong := range notMatrices(p, m, k) {
					made, code := impl.RunScheme(x, shared, left, wrong)
					wantError(t, fmt.Sprint("RunScheme of the right ", wrong, " by ", x), made, code, impl.ErrRange)
				}
				_, code := impl.RunScheme(x, shared, left, right)
				wantCode(t, "RunScheme", code, map[int]int64{0: impl.ErrState, 3: impl.ErrNone}[products])
			}
		}
	})
}
