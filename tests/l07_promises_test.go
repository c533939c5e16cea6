package tests

import (
	"fmt"
	"slices"
	"testing"

	"loop.example/g01262/impl"
)

// Promise 7: programs have their lists as forms, and shared ones have no more steps than plain ones.
// Promise 16: programs of schemes make what the schemes make.

// listSet is some lists of n numbers modulo a prime.
type listSet struct {
	name  string
	p, n  int64
	lists [][]int64
}

// listShapes are numbers of lists, and of their numbers.
var listShapes = [][2]int64{
	{1, 1}, {1, 2}, {2, 1}, {2, 2}, {2, 3}, {3, 2}, {4, 4}, {7, 4}, {4, 7}, {9, 9}, {12, 8},
	{1, impl.MaxInputs}, {impl.MaxInputs, 1}, {2, impl.MaxInputs}, {impl.MaxInputs, 2},
}

// constantLists returns lists that have one number everywhere.
func constantLists(number, count, n int64) [][]int64 {
	lists := zeros(count, n)
	for _, list := range lists {
		for at := range list {
			list[at] = number
		}
	}
	return lists
}

// thinLists returns drawn lists most of whose numbers are 0.
func thinLists(s *sequence, p, count, n int64) [][]int64 {
	lists := someMatrix(s, p, count, n)
	for _, list := range lists {
		for at := range list {
			if s.below(4) > 0 {
				list[at] = 0
			}
		}
	}
	return lists
}

// thickLists returns drawn lists without any 0.
func thickLists(s *sequence, p, count, n int64) [][]int64 {
	lists := someMatrix(s, p-1, count, n)
	for _, list := range lists {
		for at := range list {
			list[at]++
		}
	}
	return lists
}

// likeLists returns lists each of which is a multiple of one of two drawn ones, or has 0 in places of it.
func likeLists(s *sequence, p, count, n int64) [][]int64 {
	kinds, lists := someMatrix(s, p, 2, n), zeros(count, n)
	for _, list := range lists {
		kind, factor := kinds[s.below(2)], 1+s.below(p-1)
		for at := range list {
			if s.below(5) > 0 {
				list[at] = kind[at] * factor % p
			}
		}
	}
	return lists
}

// listSets returns lists of a prime and a shape: drawn ones, and others.
func listSets(s *sequence, p, count, n int64) []listSet {
	row := thickLists(s, p, 1, n)[0]
	equal, multiples := zeros(count, n), zeros(count, n)
	for i := range equal {
		copy(equal[i], row)
		copy(multiples[i], multiplied(p, int64(i)%p, row))
	}
	list := []listSet{
		{"zeros", p, n, zeros(count, n)},
		{"ones", p, n, constantLists(1, count, n)},
		{"greatest numbers", p, n, constantLists(p-1, count, n)},
		{"the numbers of units", p, n, corner(unit(max(count, n)), count, n)},
		{"equal lists", p, n, equal},
		{"multiples of a list", p, n, multiples},
		{"zeros behind drawn lists", p, n, append(someMatrix(s, p, count, n)[:count/2], zeros(count-count/2, n)...)},
		{"zeros before drawn lists", p, n, append(zeros(count/2, n), someMatrix(s, p, count-count/2, n)...)},
	}
	for range 3 {
		list = append(list,
			listSet{"drawn lists", p, n, someMatrix(s, p, count, n)},
			listSet{"thin lists", p, n, thinLists(s, p, count, n)},
			listSet{"thick lists", p, n, thickLists(s, p, count, n)},
			listSet{"like lists", p, n, likeLists(s, p, count, n)},
		)
	}
	return list
}

// eachSmallListSet calls do for lists of all primes and the shapes of listShapes.
func eachSmallListSet(do func(s *sequence, set listSet)) {
	s := &sequence{}
	for _, p := range primes {
		for _, shape := range listShapes {
			for _, set := range listSets(s, p, shape[0], shape[1]) {
				do(s, set)
			}
		}
	}
}

// eachListSet calls do for these and for the most lists with the most numbers.
func eachListSet(do func(s *sequence, set listSet)) {
	eachSmallListSet(do)
	s := &sequence{7}
	for _, p := range primes {
		for _, set := range listSets(s, p, impl.MaxInputs, impl.MaxInputs) {
			do(s, set)
		}
	}
}

// sameProgram compares two programs.
func sameProgram(g, h impl.Program) bool {
	return g.Prime == h.Prime && g.Inputs == h.Inputs && slices.Equal(g.Steps, h.Steps) && slices.Equal(g.Outputs, h.Outputs)
}

// plainOf and sharedOf return the programs of lists for which they have to be made.
func plainOf(t *testing.T, set listSet) impl.Program {
	t.Helper()
	g, code := impl.PlainProgram(set.p, set.n, set.lists)
	wantCode(t, fmt.Sprint("PlainProgram of ", set), code, impl.ErrNone)
	return g
}

func sharedOf(t *testing.T, set listSet) impl.Program {
	t.Helper()
	g, code := impl.SharedProgram(set.p, set.n, set.lists)
	wantCode(t, fmt.Sprint("SharedProgram of ", set), code, impl.ErrNone)
	return g
}

// wantForms tests that a program has lists as forms.
func wantForms(t *testing.T, what string, g impl.Program, lists [][]int64) {
	t.Helper()
	if !impl.IsProgram(g) || !expectProgram(g) {
		t.Fatalf("%s: %v is no program", what, g)
	}
	forms, code := impl.FormsOf(g)
	if code != impl.ErrNone || !sameRows(forms, lists) {
		t.Fatalf("%s: FormsOf of %v = %v, %d, want %v", what, g, forms, code, lists)
	}
}

func TestPromise7ProgramsHaveTheirLists(t *testing.T) {
	eachListSet(func(s *sequence, set listSet) {
		plain, shared := plainOf(t, set), sharedOf(t, set)
		for _, g := range []impl.Program{plain, shared} {
			wantForms(t, set.name, g, set.lists)
			wantSame(t, set.name+": the prime and the inputs", []int64{g.Prime, g.Inputs}, []int64{set.p, set.n})
		}
		if len(shared.Steps) > len(plain.Steps) {
			t.Fatalf("%s: %d shared steps, but %d plain ones", set.name, len(shared.Steps), len(plain.Steps))
		}
	})
}

// TestPromise7AllSmallLists has all pairs of two lists of three numbers.
func TestPromise7AllSmallLists(t *testing.T) {
	for _, p := range primes {
		saved := 0
		for number := range power(p, 6) {
			set := listSet{"all small lists", p, 3, matrixOf(number, p, 2, 3)}
			plain, shared := plainOf(t, set), sharedOf(t, set)
			wantForms(t, set.name, plain, set.lists)
			wantForms(t, set.name, shared, set.lists)
			if len(shared.Steps) > len(plain.Steps) {
				t.Fatalf("%v: %d shared steps, but %d plain ones", set, len(shared.Steps), len(plain.Steps))
			}
			saved += len(plain.Steps) - len(shared.Steps)
		}
		if saved == 0 {
			t.Fatalf("no steps are shared modulo %d", p)
		}
	}
}

// someProgram returns a drawn program; with one input it has no steps.
func someProgram(s *sequence, p, inputs, steps, outputs int64) impl.Program {
	g := impl.Program{Prime: p, Inputs: inputs}
	for i := range steps {
		values := inputs + i
		if values == 1 {
			break
		}
		left := s.below(values)
		right := (left + 1 + s.below(values-1)) % values
		g.Steps = append(g.Steps, impl.Step{Left: left, Right: right, Factor: 1 + s.below(p-1)})
	}
	for range outputs {
		o := impl.Output{Value: s.below(inputs + int64(len(g.Steps))), Factor: s.below(p)}
		if o.Factor == 0 {
			o.Value = 0
		}
		g.Outputs = append(g.Outputs, o)
	}
	return g
}

// eachProgram calls do for drawn programs of all primes, with few and with most inputs, steps and outputs.
func eachProgram(do func(s *sequence, g impl.Program)) {
	s := &sequence{}
	for _, p := range primes {
		for _, inputs := range []int64{1, 2, 3, 9, impl.MaxInputs} {
			for _, steps := range []int64{0, 1, 2, 3, 7, 20, 60} {
				for _, outputs := range []int64{1, 2, 5, impl.MaxInputs} {
					do(s, someProgram(s, p, inputs, steps, outputs))
				}
			}
		}
		do(s, someProgram(s, p, 2, impl.MaxSteps, 1))
		do(s, someProgram(s, p, impl.MaxInputs, impl.MaxSteps, impl.MaxInputs))
	}
}

// withoutNeedless returns a program without its needless steps.
func withoutNeedless(t *testing.T, g impl.Program) impl.Program {
	t.Helper()
	made, code := impl.WithoutNeedless(g)
	wantCode(t, fmt.Sprint("WithoutNeedless of ", g), code, impl.ErrNone)
	return made
}

func TestPromise7WithoutNeedlessSteps(t *testing.T) {
	fewer := 0
	eachProgram(func(s *sequence, g impl.Program) {
		made := withoutNeedless(t, g)
		wantForms(t, "WithoutNeedless", made, expectForms(g))
		if again := withoutNeedless(t, made); !sameProgram(again, made) {
			t.Fatalf("WithoutNeedless again of %v = %v", made, again)
		}
		if len(made.Steps) > len(g.Steps) {
			t.Fatalf("WithoutNeedless of %v has more steps: %v", g, made)
		}
		fewer += len(g.Steps) - len(made.Steps)
	})
	if fewer == 0 {
		t.Fatal("no drawn program has needless steps")
	}
}

// TestPromise7MadeProgramsNeedTheirSteps tests that no step of a plain or a shared program is needless.
func TestPromise7MadeProgramsNeedTheirSteps(t *testing.T) {
	eachListSet(func(s *sequence, set listSet) {
		for _, g := range []impl.Program{plainOf(t, set), sharedOf(t, set)} {
			if made := withoutNeedless(t, g); !sameProgram(made, g) {
				t.Fatalf("%s: WithoutNeedless of %v = %v", set.name, g, made)
			}
		}
	})
}

// wantOutputs tests that the outputs of a program are its forms times the inputs.
func wantOutputs(t *testing.T, g impl.Program, inputs []int64) {
	t.Helper()
	forms, code := impl.FormsOf(g)
	wantCode(t, "FormsOf", code, impl.ErrNone)
	outputs, code := impl.RunProgram(g, inputs)
	if code != impl.ErrNone || !slices.Equal(outputs, formsTimes(g.Prime, forms, inputs)) {
		t.Fatalf("RunProgram of %v and %v = %v, %d, but the forms are %v", g, inputs, outputs, code, forms)
	}
}

func TestPromise7OutputsAreFormsTimesInputs(t *testing.T) {
	eachProgram(func(s *sequence, g impl.Program) {
		for _, inputs := range [][]int64{
			make([]int64, g.Inputs), constantLists(g.Prime-1, 1, g.Inputs)[0], someList(s, g.Prime, g.Inputs), someList(s, g.Prime, g.Inputs),
		} {
			wantOutputs(t, g, inputs)
		}
	})
	eachSmallListSet(func(s *sequence, set listSet) {
		wantOutputs(t, plainOf(t, set), someList(s, set.p, set.n))
		wantOutputs(t, sharedOf(t, set), someList(s, set.p, set.n))
	})
}

// eachSchemeToRun calls do for schemes with products of all primes and sizes: standard, known, joined and
// drawn ones, with 1 and with the most products.
func eachSchemeToRun(do func(s *sequence, x impl.Scheme)) {
	s := &sequence{}
	eachSize(func(p, n, m, k int64) {
		list := append(schemesToMove(s, p, n, m, k), someScheme(s, p, n, m, k, impl.MaxProducts))
		if n == m && m == k && n > 1 {
			list = append(list, correctSquares(p, n)...)
			list = append(list, fullScheme(p, n, 1), fullScheme(p, n, impl.MaxProducts))
		}
		for _, x := range list {
			if len(x.Products) > 0 {
				do(s, x)
			}
		}
	})
}

// programsOf returns the three programs of a scheme with products.
func programsOf(t *testing.T, x impl.Scheme, shared bool) []impl.Program {
	t.Helper()
	programs, code := impl.ProgramsOf(x, shared)
	if len(programs) != 3 || code != impl.ErrNone {
		t.Fatalf("ProgramsOf of %v and %v = %v, %d", x, shared, programs, code)
	}
	return programs
}

// wantRun tests that the programs of a scheme make of two matrices what MakeProduct tells.
func wantRun(t *testing.T, x impl.Scheme, left, right [][]int64) {
	t.Helper()
	want, code := impl.MakeProduct(x, left, right)
	wantCode(t, "MakeProduct", code, impl.ErrNone)
	for _, shared := range []bool{false, true} {
		made, code := impl.RunScheme(x, shared, left, right)
		if code != impl.ErrNone || !sameRows(made, want) {
			t.Fatalf("RunScheme of %v, %v, %v and %v = %v, %d, want %v", x, shared, left, right, made, code, want)
		}
	}
}

func TestPromise16ProgramsMakeWhatSchemesMake(t *testing.T) {
	eachSchemeToRun(func(s *sequence, x impl.Scheme) {
		p, n, m, k := x.Prime, x.Rows, x.Inner, x.Cols
		wantRun(t, x, zeros(n, m), someMatrix(s, p, m, k))
		wantRun(t, x, constantLists(p-1, n, m), constantLists(p-1, m, k))
		for range 3 {
			wantRun(t, x, someMatrix(s, p, n, m), someMatrix(s, p, m, k))
		}
	})
}

// TestPromise16KnownSchemesByAllMatrices has all matrices, or many of them.
func TestPromise16KnownSchemesByAllMatrices(t *testing.T) {
	for _, p := range primes {
		for _, name := range []string{"strassen", "winograd", "plain"} {
			x, code := impl.KnownScheme(name, p)
			wantCode(t, "KnownScheme", code, impl.ErrNone)
			eachPair(x, func(left, right [][]int64) {
				wantRun(t, x, left, right)
				made, _ := impl.RunScheme(x, true, left, right)
				wantSame(t, "RunScheme of a correct scheme", made, expectProduct(p, left, right))
			})
		}
	}
}

// TestPromise16OneProgramAfterTheOther runs the programs by hand: the outputs of the first two are
// multiplied, and put into the third one.
func TestPromise16OneProgramAfterTheOther(t *testing.T) {
	eachSchemeToRun(func(s *sequence, x impl.Scheme) {
		left, right := someMatrix(s, x.Prime, x.Rows, x.Inner), someMatrix(s, x.Prime, x.Inner, x.Cols)
		for _, shared := range []bool{false, true} {
			programs := programsOf(t, x, shared)
			firsts, code := impl.RunProgram(programs[0], slices.Concat(left...))
			wantCode(t, "RunProgram", code, impl.ErrNone)
			seconds, code := impl.RunProgram(programs[1], slices.Concat(right...))
			wantCode(t, "RunProgram", code, impl.ErrNone)
			for i := range firsts {
				firsts[i] = firsts[i] * seconds[i] % x.Prime
			}
			entries, code := impl.RunProgram(programs[2], firsts)
			wantCode(t, "RunProgram", code, impl.ErrNone)
			wantSame(t, "the programs of a scheme", entries, slices.Concat(expectMade(x, left, right)...))
		}
	})
}

// TestPromise7FormsOfSchemes tests that the forms of the three programs are those of the scheme, and that
// StepsOf tells their numbers of steps. Plain programs have as many as the cost has additions (chapter 6).
func TestPromise7FormsOfSchemes(t *testing.T) {
	eachSchemeToRun(func(s *sequence, x impl.Scheme) {
		plain, lists := steps(t, x, false), expectLists(x)
		wantSame(t, fmt.Sprint("StepsOf of ", x), plain, costs(t, x)[1:])
		for _, shared := range []bool{false, true} {
			told := steps(t, x, shared)
			for at, g := range programsOf(t, x, shared) {
				wantForms(t, fmt.Sprint("the program ", at, " of ", x), g, lists[at])
				wantSame(t, fmt.Sprint("StepsOf of ", x), told[at], int64(len(g.Steps)))
				if told[at] > plain[at] {
					t.Fatalf("StepsOf of %v: %v shared, but %v plain", x, told, plain)
				}
			}
		}
	})
}

// steps returns the numbers of steps of the programs of a scheme with products.
func steps(t *testing.T, x impl.Scheme, shared bool) []int64 {
	t.Helper()
	counts, code := impl.StepsOf(x, shared)
	if len(counts) != 3 || code != impl.ErrNone {
		t.Fatalf("StepsOf of %v and %v = %v, %d", x, shared, counts, code)
	}
	return counts
}
