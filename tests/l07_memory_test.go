package tests

import (
	"fmt"
	"slices"
	"testing"

	"loop.example/g01262/impl"
)

// roomyProgram returns a copy of g whose lists have room behind them, filled with values of its own, and a
// function that tells all of it.
func roomyProgram(g impl.Program) (impl.Program, func() string) {
	steps := append(slices.Clone(g.Steps), impl.Step{Left: 77, Right: 88, Factor: 99}, impl.Step{Left: 66}, impl.Step{Right: 55})
	outputs := append(slices.Clone(g.Outputs), impl.Output{Value: 44, Factor: 33}, impl.Output{Value: 22}, impl.Output{Factor: 11})
	g.Steps, g.Outputs = steps[:len(g.Steps)], outputs[:len(g.Outputs)]
	return g, func() string { return fmt.Sprint(g, steps, outputs) }
}

// spoilPrograms overwrites all memory of what a function of chapter 7 returned, and tests that no two
// lists of it share theirs.
func spoilPrograms(t *testing.T, what string, result any) {
	t.Helper()
	switch made := result.(type) {
	case impl.Program:
		overwrite(made.Steps)
		overwrite(made.Outputs)
	case []impl.Program:
		wantProgramsApart(t, what, made)
		overwrite(made)
	case []int64:
		overwrite(made)
	case [][]int64:
		wantRowsApart(t, what, made)
		overwrite(made)
	}
}

// wantProgramsApart fills the lists of each program, and the room behind them, with a number of its own,
// and looks whether all programs keep theirs.
func wantProgramsApart(t *testing.T, what string, programs []impl.Program) {
	t.Helper()
	mark := func(i int) (impl.Step, impl.Output) {
		number := int64(1000 + i)
		return impl.Step{Left: number, Right: number, Factor: number}, impl.Output{Value: number, Factor: number}
	}
	for i, g := range programs {
		s, o := mark(i)
		for at := range g.Steps[:cap(g.Steps)] {
			g.Steps[:cap(g.Steps)][at] = s
		}
		for at := range g.Outputs[:cap(g.Outputs)] {
			g.Outputs[:cap(g.Outputs)][at] = o
		}
	}
	for i, g := range programs {
		s, o := mark(i)
		for _, step := range g.Steps[:cap(g.Steps)] {
			wantSame(t, what+": a step after others were changed", step, s)
		}
		for _, output := range g.Outputs[:cap(g.Outputs)] {
			wantSame(t, what+": an output after others were changed", output, o)
		}
	}
}

// roomyPrograms returns programs of three inputs, for which the calls of programCalls are good, and others.
func roomyPrograms() []impl.Program {
	s := &sequence{}
	var list []impl.Program
	for _, p := range primes {
		for _, steps := range []int64{0, 1, 4, 8, 30} {
			for _, outputs := range []int64{1, 4, impl.MaxInputs} {
				list = append(list, someProgram(s, p, 3, steps, outputs), someProgram(s, p, 2, steps, outputs))
			}
		}
	}
	return append(list, longProgram(5, impl.MaxSteps, impl.MaxInputs), impl.Program{})
}

func TestProgramsAreNotChangedOrShared(t *testing.T) {
	for _, program := range roomyPrograms() {
		for _, call := range append(programCalls(), badProgramCalls()...) {
			g, tell := roomyProgram(program)
			before := tell()
			result, code := call.run(g)
			wantSame(t, call.name+": its argument", tell(), before)
			text := fmt.Sprint(result)
			spoilPrograms(t, call.name, result)
			wantSame(t, call.name+": its argument after the result was changed", tell(), before)
			again, codeAgain := call.run(g)
			wantSame(t, call.name+" again", fmt.Sprint(again), text)
			wantCode(t, call.name+" again", codeAgain, code)
		}
	}
}

// TestProgramsWithNothingNeedlessAreNew tests that a program that stays as it is has lists of its own.
func TestProgramsWithNothingNeedlessAreNew(t *testing.T) {
	g := longProgram(3, 4, 2)
	g.Outputs[0].Value = 5
	before := fmt.Sprint(g)
	made := withoutNeedless(t, g)
	wantSame(t, "WithoutNeedless", fmt.Sprint(made), before)
	overwrite(made.Steps)
	overwrite(made.Outputs)
	wantSame(t, "WithoutNeedless: its argument", fmt.Sprint(g), before)
}

func TestInputsAreNotChangedOrShared(t *testing.T) {
	eachProgram(func(s *sequence, g impl.Program) {
		whole := append(someList(s, g.Prime, g.Inputs), 77, 88, 99)
		before := fmt.Sprint(whole)
		outputs, code := impl.RunProgram(g, whole[:g.Inputs])
		wantCode(t, "RunProgram", code, impl.ErrNone)
		wantSame(t, "RunProgram: its inputs", fmt.Sprint(whole), before)
		overwrite(outputs)
		wantSame(t, "RunProgram: its inputs after the outputs were changed", fmt.Sprint(whole), before)
	})
}

func TestListsOfProgramsAreNotChanged(t *testing.T) {
	eachSmallListSet(func(s *sequence, set listSet) {
		lists, tell := roomyMatrix(set.lists)
		before := tell()
		for _, maker := range makers {
			g, code := maker.run(set.p, set.n, lists)
			wantCode(t, maker.name, code, impl.ErrNone)
			wantSame(t, maker.name+": its lists", tell(), before)
			text := fmt.Sprint(g)
			spoilPrograms(t, maker.name, g)
			again, code := maker.run(set.p, set.n, lists)
			wantCode(t, maker.name+" again", code, impl.ErrNone)
			wantSame(t, maker.name+" again", fmt.Sprint(again), text)
			maker.run(set.p, set.n+1, lists)
			wantSame(t, maker.name+" of wrong lists: its lists", tell(), before)
		}
	})
}

// TestOneListInAllPlaces has lists that share their memory with each other.
func TestOneListInAllPlaces(t *testing.T) {
	list := []int64{1, 2, 0, 4}
	lists := [][]int64{list, list[:4], list, list}
	for at, maker := range makers {
		g, code := maker.run(5, 4, lists)
		want := []impl.Program{expectPlainProgram(5, 4, lists), expectSharedProgram(5, 4, lists)}[at]
		wantProgram(t, maker.name, g, code, want)
		wantSame(t, maker.name+": its list", list, []int64{1, 2, 0, 4})
	}
}

func TestSchemesOfProgramsAreNotChangedOrShared(t *testing.T) {
	for _, scheme := range roomySquares() {
		for _, call := range append(runCalls(), badRunCalls()...) {
			x, whole := roomy(scheme)
			before := fmt.Sprint(x, whole)
			result, code := call.run(x)
			wantSame(t, call.name+": its argument", fmt.Sprint(x, whole), before)
			text := fmt.Sprint(result)
			spoilPrograms(t, call.name, result)
			wantSame(t, call.name+": its argument after the result was changed", fmt.Sprint(x, whole), before)
			again, codeAgain := call.run(x)
			wantSame(t, call.name+" again", fmt.Sprint(again), text)
			wantCode(t, call.name+" again", codeAgain, code)
		}
	}
}

func TestMatricesOfRunsAreNotChanged(t *testing.T) {
	eachSchemeToRun(func(s *sequence, x impl.Scheme) {
		left, tellLeft := roomyMatrix(someMatrix(s, x.Prime, x.Rows, x.Inner))
		right, tellRight := roomyMatrix(someMatrix(s, x.Prime, x.Inner, x.Cols))
		before := tellLeft() + tellRight()
		for _, shared := range []bool{false, true} {
			made, code := impl.RunScheme(x, shared, left, right)
			wantCode(t, "RunScheme", code, impl.ErrNone)
			wantSame(t, "RunScheme: its matrices", tellLeft()+tellRight(), before)
			wantRowsApart(t, "RunScheme", made)
			wantSame(t, "RunScheme: its matrices after the result was changed", tellLeft()+tellRight(), before)
		}
	})
}

// TestProgramsAreAppendedTo tests that nothing that is put behind a list of a program comes into another.
func TestProgramsAreAppendedTo(t *testing.T) {
	x := winograd(5)
	for _, shared := range []bool{false, true} {
		programs := programsOf(t, x, shared)
		for at := range programs {
			programs[at].Steps = append(programs[at].Steps, impl.Step{Left: 1000})[:len(programs[at].Steps)]
			programs[at].Outputs = append(programs[at].Outputs, impl.Output{Value: 1000})[:len(programs[at].Outputs)]
		}
		for at, want := range expectPrograms(x, shared) {
			wantProgram(t, "ProgramsOf", programs[at], impl.ErrNone, want)
		}
	}
}

// TestProgramCallsAgain tests that no call depends on those before it.
func TestProgramCallsAgain(t *testing.T) {
	s := &sequence{}
	for _, x := range []impl.Scheme{strassen(2), winograd(3), fullScheme(5, 2, impl.MaxProducts)} {
		for _, call := range runCalls() {
			result, code := call.run(x)
			for _, p := range primes {
				impl.SharedProgram(p, 9, someMatrix(s, p, 8, 9))
				impl.FormsOf(someProgram(s, p, 4, 9, 5))
			}
			again, codeAgain := call.run(x)
			wantSame(t, call.name+" again", again, result)
			wantCode(t, call.name+" again", codeAgain, code)
		}
	}
}
