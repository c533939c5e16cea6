package tests

import (
	"slices"

	"loop.example/g01262/impl"
)

// The functions of this file say again what chapter 7 says, in the plainest way.

func expectProgram(g impl.Program) bool {
	if !slices.Contains(primes, g.Prime) || g.Inputs < 1 || g.Inputs > 30 || len(g.Steps) > 900 || len(g.Outputs) < 1 || len(g.Outputs) > 30 {
		return false
	}
	for i, s := range g.Steps {
		ahead := g.Inputs + int64(i)
		if min(s.Left, s.Right) < 0 || max(s.Left, s.Right) >= ahead || s.Left == s.Right || s.Factor < 1 || s.Factor >= g.Prime {
			return false
		}
	}
	for _, o := range g.Outputs {
		if o.Value < 0 || o.Value >= g.Inputs+int64(len(g.Steps)) || o.Factor < 0 || o.Factor >= g.Prime || o.Factor == 0 && o.Value != 0 {
			return false
		}
	}
	return true
}

// multiplied returns a list with all of its numbers multiplied.
func multiplied(p, factor int64, list []int64) []int64 {
	var made []int64
	for _, number := range list {
		made = append(made, number*factor%p)
	}
	return made
}

// expectForms puts the forms of the values in the place of the values.
func expectForms(g impl.Program) [][]int64 {
	values := unit(g.Inputs)
	for _, s := range g.Steps {
		values = append(values, rowsAdded(g.Prime, values[s.Left], multiplied(g.Prime, s.Factor, values[s.Right])))
	}
	var forms [][]int64
	for _, o := range g.Outputs {
		forms = append(forms, multiplied(g.Prime, o.Factor, values[o.Value]))
	}
	return forms
}

// expectOutputs returns the outputs of a program, value by value.
func expectOutputs(g impl.Program, inputs []int64) []int64 {
	values := slices.Clone(inputs)
	for _, s := range g.Steps {
		values = append(values, (values[s.Left]+s.Factor*values[s.Right])%g.Prime)
	}
	var outputs []int64
	for _, o := range g.Outputs {
		outputs = append(outputs, o.Factor*values[o.Value]%g.Prime)
	}
	return outputs
}

// formsTimes returns the sums of the numbers of forms times inputs.
func formsTimes(p int64, forms [][]int64, inputs []int64) []int64 {
	var sums []int64
	for _, form := range forms {
		sum := int64(0)
		for i, number := range form {
			sum += number * inputs[i]
		}
		sums = append(sums, sum%p)
	}
	return sums
}

// dividedBy returns the number whose product with the second one is the first one, found by trying.
func dividedBy(p, number, by int64) int64 {
	for result := range p {
		if result*by%p == number {
			return result
		}
	}
	return 0
}

// expectRows puts the plain steps and outputs of rows behind those of a program.
func expectRows(g impl.Program, rows [][]int64) impl.Program {
	for _, row := range rows {
		var places []int
		for at, number := range row {
			if number != 0 {
				places = append(places, at)
			}
		}
		if len(places) == 0 {
			g.Outputs = append(g.Outputs, impl.Output{Value: 0, Factor: 0})
			continue
		}
		there, first := int64(places[0]), row[places[0]]
		for _, at := range places[1:] {
			g.Steps = append(g.Steps, impl.Step{Left: there, Right: int64(at), Factor: dividedBy(g.Prime, row[at], first)})
			there = g.Inputs + int64(len(g.Steps)) - 1
		}
		g.Outputs = append(g.Outputs, impl.Output{Value: there, Factor: first})
	}
	return g
}

func expectPlainProgram(p, n int64, lists [][]int64) impl.Program {
	return expectRows(impl.Program{Prime: p, Inputs: n}, lists)
}

// fits reports whether a row has a number other than 0 in the column Left of a step, and Factor times it
// in Right.
func fits(p int64, row []int64, s impl.Step) bool {
	return row[s.Left] != 0 && row[s.Right] == s.Factor*row[s.Left]%p
}

// firstShared looks at every choice, and returns the first one that fits most rows, and how many.
func firstShared(p int64, rows [][]int64) (best impl.Step, most int) {
	values := int64(len(rows[0]))
	for i := range values {
		for j := i + 1; j < values; j++ {
			for r := int64(1); r < p; r++ {
				choice, count := impl.Step{Left: i, Right: j, Factor: r}, 0
				for _, row := range rows {
					if fits(p, row, choice) {
						count++
					}
				}
				if count > most {
					best, most = choice, count
				}
			}
		}
	}
	return best, most
}

// expectSharedProgram keeps the table as rows, and looks at it anew before each step.
func expectSharedProgram(p, n int64, lists [][]int64) impl.Program {
	g := impl.Program{Prime: p, Inputs: n}
	var rows [][]int64
	for _, list := range lists {
		rows = append(rows, slices.Clone(list))
	}
	step, most := firstShared(p, rows)
	for most >= 2 {
		g.Steps = append(g.Steps, step)
		for i, row := range rows {
			moved := int64(0)
			if fits(p, row, step) {
				moved, row[step.Left], row[step.Right] = row[step.Left], 0, 0
			}
			rows[i] = append(row, moved)
		}
		step, most = firstShared(p, rows)
	}
	return expectRows(g, rows)
}

// expectDepths follows the steps.
func expectDepths(g impl.Program) []int64 {
	values := make([]int64, g.Inputs)
	for _, s := range g.Steps {
		values = append(values, max(values[s.Left]+1, values[s.Right]+1))
	}
	var depths []int64
	for _, o := range g.Outputs {
		if o.Factor == 0 {
			depths = append(depths, 0)
		} else {
			depths = append(depths, values[o.Value])
		}
	}
	return depths
}

// isUsed reports whether an output with a factor, or a step, has a value.
func isUsed(g impl.Program, value int64) bool {
	return slices.ContainsFunc(g.Outputs, func(o impl.Output) bool { return o.Factor != 0 && o.Value == value }) ||
		slices.ContainsFunc(g.Steps, func(s impl.Step) bool { return s.Left == value || s.Right == value })
}

// behind returns the number of a value when the value gone is there no more.
func behind(value, gone int64) int64 {
	if value > gone {
		return value - 1
	}
	return value
}

// expectWithout takes away one unused step after the other, the last one first, until all are used.
func expectWithout(g impl.Program) impl.Program {
	g.Steps, g.Outputs = slices.Clone(g.Steps), slices.Clone(g.Outputs)
	for i := len(g.Steps) - 1; i >= 0; i-- {
		gone := g.Inputs + int64(i)
		if isUsed(g, gone) {
			continue
		}
		g.Steps = slices.Delete(g.Steps, i, i+1)
		for at, s := range g.Steps {
			g.Steps[at] = impl.Step{Left: behind(s.Left, gone), Right: behind(s.Right, gone), Factor: s.Factor}
		}
		for at, o := range g.Outputs {
			g.Outputs[at].Value = behind(o.Value, gone)
		}
	}
	return g
}

// expectLists returns the lists of the three programs of a scheme, number by number.
func expectLists(x impl.Scheme) [3][][]int64 {
	var lists [3][][]int64
	for _, q := range x.Products {
		lists[0] = append(lists[0], slices.Concat(table(q.A, x.Rows, x.Inner)...))
		lists[1] = append(lists[1], slices.Concat(table(q.B, x.Inner, x.Cols)...))
	}
	for c := range x.Rows * x.Cols {
		var list []int64
		for _, q := range x.Products {
			list = append(list, int64(q.C[c]))
		}
		lists[2] = append(lists[2], list)
	}
	return lists
}

// expectPrograms returns the three programs of a scheme with products.
func expectPrograms(x impl.Scheme, shared bool) []impl.Program {
	var programs []impl.Program
	for _, lists := range expectLists(x) {
		expect := expectPlainProgram
		if shared {
			expect = expectSharedProgram
		}
		programs = append(programs, expect(x.Prime, int64(len(lists[0])), lists))
	}
	return programs
}
