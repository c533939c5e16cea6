package tests

import (
	"fmt"
	"slices"
	"testing"

	"loop.example/g01262/impl"
)

// roomyTensor returns a copy of x whose list has room behind it, filled with numbers of its own, and
// the whole list with this room.
func roomyTensor(x impl.Tensor) (impl.Tensor, []int64) {
	whole := append(slices.Clone(x.Numbers), 77, 88, 99)
	x.Numbers = whole[:len(x.Numbers)]
	return x, whole
}

// spoilTensors overwrites all memory of what a function of chapter 5 returned, and tests that no two
// lists of it share theirs.
func spoilTensors(t *testing.T, what string, result any) {
	t.Helper()
	switch made := result.(type) {
	case impl.Tensor:
		overwrite(made.Numbers)
	case []int64:
		overwrite(made)
	case [][]int64:
		wantRowsApart(t, what, made)
		overwrite(made)
	}
}

// roomyTensors returns tensors for which the calls of tensorCalls are good, simple ones and others, and
// some for which not all of them are, because of their sides.
func roomyTensors() []impl.Tensor {
	s := &sequence{}
	list := tensorsOf(s, 5, [3]int64{2, 2, 2})
	for _, p := range primes {
		list = append(list, tensorsOf(s, p, [3]int64{2, 2, 2})[1:4]...)
	}
	return append(list, tensorsOf(s, 2, [3]int64{1, 2, 2})...)
}

func TestTensorsAreNotChangedOrShared(t *testing.T) {
	for _, tensor := range roomyTensors() {
		for _, call := range append(tensorCalls(), badTensorCalls()...) {
			x, whole := roomyTensor(tensor)
			before := fmt.Sprint(x, whole)
			result, _ := call.run(x)
			wantSame(t, call.name+": its argument", fmt.Sprint(x, whole), before)
			text := fmt.Sprint(result)
			spoilTensors(t, call.name, result)
			wantSame(t, call.name+": its argument after the result was changed", fmt.Sprint(x, whole), before)
			again, _ := call.run(x)
			wantSame(t, call.name+" again", fmt.Sprint(again), text)
		}
	}
}

func TestPairsOfTensorsAreNotChangedOrShared(t *testing.T) {
	for _, first := range roomyTensors() {
		for _, second := range roomyTensors() {
			for _, way := range tensorPairs {
				x, wholeX := roomyTensor(first)
				y, wholeY := roomyTensor(second)
				before := fmt.Sprint(x, wholeX, y, wholeY)
				made, code := way.run(x, y)
				wantSame(t, way.name+": its arguments", fmt.Sprint(x, wholeX, y, wholeY), before)
				text := fmt.Sprint(made)
				overwrite(made.Numbers)
				wantSame(t, way.name+": its arguments after the result was changed", fmt.Sprint(x, wholeX, y, wholeY), before)
				again, codeAgain := way.run(x, y)
				wantSame(t, way.name+" again", fmt.Sprint(again), text)
				wantCode(t, way.name+" again", codeAgain, code)
			}
		}
	}
}

// TestSlicesOfAllSidesAreApart has sides that differ, so that rows of all lengths follow each other.
func TestSlicesOfAllSidesAreApart(t *testing.T) {
	s := &sequence{}
	for _, sides := range someSides {
		x, whole := roomyTensor(tensorsOf(s, 3, sides)[7])
		before := slices.Clone(whole)
		for side, length := range sides {
			for at := range length {
				rows, code := impl.SliceOf(x, int64(side), at)
				wantCode(t, "SliceOf", code, impl.ErrNone)
				wantRowsApart(t, "SliceOf", rows)
			}
			numbers := []int64{1, 2, 0, 1, 2, 0, 1, 2, 0, 66, 55}
			rows, code := impl.ContractTensor(x, int64(side), numbers[:length])
			wantCode(t, "ContractTensor", code, impl.ErrNone)
			wantRowsApart(t, "ContractTensor", rows)
			wantSame(t, "ContractTensor: its numbers", numbers, []int64{1, 2, 0, 1, 2, 0, 1, 2, 0, 66, 55})
		}
		wantSame(t, "a tensor after its slices were changed", whole, before)
	}
}

// TestRowsAreAppendedTo tests that nothing that is put behind a row comes into the next one.
func TestRowsAreAppendedTo(t *testing.T) {
	s := &sequence{}
	x := tensorsOf(s, 5, [3]int64{3, 4, 5})[7]
	for side := range int64(3) {
		rows, code := impl.SliceOf(x, side, 1)
		wantCode(t, "SliceOf", code, impl.ErrNone)
		for i := range rows {
			rows[i] = append(rows[i], 1000)[:len(rows[i])]
		}
		wantRows(t, "SliceOf", x, rows, impl.ErrNone, expectSlice(x, side, 1))
	}
}

func TestTensorsOfSchemesAreNew(t *testing.T) {
	for _, scheme := range roomySchemes() {
		x, whole := roomy(scheme)
		before := fmt.Sprint(x, whole)
		text := spoil(tensorOf(t, x).Numbers)
		wantSame(t, "TensorOfScheme: its argument", fmt.Sprint(x, whole), before)
		wantSame(t, "TensorOfScheme again", spoil(tensorOf(t, x).Numbers), text)
	}
	for _, p := range primes {
		text := spoil(matrixTensor(t, p, 2, 3, 1).Numbers)
		wantSame(t, "MatrixTensor again", spoil(matrixTensor(t, p, 2, 3, 1).Numbers), text)
	}
}

func TestRowsOfRanksAreNotChanged(t *testing.T) {
	s := &sequence{}
	for _, p := range primes {
		for _, shape := range [][2]int64{{1, 1}, {2, 2}, {3, 5}, {9, 81}, {9, 1}, {10, 1}, {2, 82}} {
			rows, tell := roomyMatrix(someMatrix(s, p, shape[0], shape[1]))
			before := tell()
			rank, code := impl.RowRank(p, rows)
			wantSame(t, "RowRank: its rows", tell(), before)
			again, codeAgain := impl.RowRank(p, rows)
			wantSame(t, "RowRank again", again, rank)
			wantCode(t, "RowRank again", codeAgain, code)
		}
	}
}

// TestOneRowInAllPlaces has rows that share their memory with each other.
func TestOneRowInAllPlaces(t *testing.T) {
	row := []int64{1, 2, 0, 4}
	rank, code := impl.RowRank(5, [][]int64{row, row[:4], row})
	wantCode(t, "RowRank", code, impl.ErrNone)
	wantSame(t, "RowRank of one row three times", rank, int64(1))
	wantSame(t, "RowRank: its row", row, []int64{1, 2, 0, 4})
}

// TestTensorCallsAgain tests that no call depends on those before it.
func TestTensorCallsAgain(t *testing.T) {
	s := &sequence{}
	for _, x := range roomyTensors() {
		for _, call := range tensorCalls() {
			result, code := call.run(x)
			for _, other := range tensorsOf(s, 3, [3]int64{4, 2, 9}) {
				impl.FlattenRanks(other)
				impl.SliceOf(other, 2, 8)
			}
			again, codeAgain := call.run(x)
			wantSame(t, call.name+" again", again, result)
			wantCode(t, call.name+" again", codeAgain, code)
		}
	}
}
