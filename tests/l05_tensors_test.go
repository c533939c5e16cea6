package tests

import (
	"fmt"
	"slices"
	"testing"

	"loop.example/g01262/impl"
)

// someSides has sides of 1 and of MaxSide, and sides that differ all three, in each order of long and
// short ones.
var someSides = [][3]int64{
	{1, 1, 1}, {1, 1, 2}, {1, 2, 1}, {2, 1, 1}, {2, 2, 2}, {1, 2, 3}, {3, 1, 2}, {2, 3, 1}, {3, 2, 1}, {4, 3, 2}, {2, 4, 3}, {3, 4, 5}, {5, 3, 4},
	{1, 1, 9}, {1, 9, 1}, {9, 1, 1}, {9, 9, 1}, {9, 1, 9}, {1, 9, 9}, {9, 2, 1}, {2, 1, 9}, {1, 9, 2}, {9, 8, 7}, {7, 9, 8}, {9, 9, 9},
}

func someList(s *sequence, p, count int64) []int64 { return someMatrix(s, p, 1, count)[0] }

// someSimple returns a simple tensor, some of whose lists begin with zeros.
func someSimple(s *sequence, p int64, sides [3]int64) impl.Tensor {
	var lists [3][]int64
	for side, length := range sides {
		list := make([]int64, length)
		for at := s.below(length); at < length; at++ {
			list[at] = s.below(p)
		}
		list[length-1-s.below(length)] = 1 + s.below(p-1)
		lists[side] = list
	}
	return simpleTensor(p, lists[0], lists[1], lists[2])
}

// tensorsOf returns tensors with given sides: one of zeros, one with a single number at the end, simple
// ones, one with many zeros, sums of simple ones, and one of any numbers.
func tensorsOf(s *sequence, p int64, sides [3]int64) []impl.Tensor {
	last := makeTensor(p, sides, func(i, j, k int64) int64 { return 0 })
	last.Numbers[len(last.Numbers)-1] = p - 1
	simple, other := someSimple(s, p, sides), someSimple(s, p, sides)
	return []impl.Tensor{
		makeTensor(p, sides, func(i, j, k int64) int64 { return 0 }),
		last, simple, other,
		makeTensor(p, sides, func(i, j, k int64) int64 { return s.below(p) * s.below(2) * s.below(2) }),
		expectAdded(simple, other, 1),
		expectAdded(simple, someSimple(s, p, sides), p-1),
		makeTensor(p, sides, func(i, j, k int64) int64 { return s.below(p) }),
	}
}

// tensorsOfSchemes returns the tensors of standard, known and joined schemes, as TensorOfScheme and
// MatrixTensor give them; all of these schemes are correct, so that those of equal sizes are equal.
func tensorsOfSchemes(t *testing.T, p int64) []impl.Tensor {
	t.Helper()
	var list []impl.Tensor
	for _, name := range []string{"strassen", "winograd", "plain"} {
		x, code := impl.KnownScheme(name, p)
		wantCode(t, "KnownScheme", code, impl.ErrNone)
		list = append(list, tensorOf(t, x))
	}
	for at := range int64(27) {
		n, m, k := at/9+1, at/3%3+1, at%3+1
		x, code := impl.JoinScheme(p, n, m, k)
		wantCode(t, "JoinScheme", code, impl.ErrNone)
		list = append(list, tensorOf(t, x), matrixTensor(t, p, n, m, k))
	}
	return list
}

func tensorOf(t *testing.T, x impl.Scheme) impl.Tensor {
	t.Helper()
	made, code := impl.TensorOfScheme(x)
	wantCode(t, fmt.Sprint("TensorOfScheme of ", x), code, impl.ErrNone)
	return made
}

func matrixTensor(t *testing.T, p, n, m, k int64) impl.Tensor {
	t.Helper()
	made, code := impl.MatrixTensor(p, n, m, k)
	wantCode(t, fmt.Sprint("MatrixTensor of ", p, n, m, k), code, impl.ErrNone)
	return made
}

// eachTensor calls do for tensors of all primes.
func eachTensor(t *testing.T, do func(s *sequence, x impl.Tensor)) {
	t.Helper()
	s := &sequence{}
	for _, p := range primes {
		for _, x := range tensorsOfSchemes(t, p) {
			do(s, x)
		}
		for _, sides := range someSides {
			for _, x := range tensorsOf(s, p, sides) {
				do(s, x)
			}
		}
	}
}

// wantTensor tests that a call returned a tensor, and no error.
func wantTensor(t *testing.T, what string, of any, made impl.Tensor, code int64, want impl.Tensor) {
	t.Helper()
	if code != impl.ErrNone || !sameTensor(made, want) || !impl.IsTensor(made) || !expectTensor(made) {
		t.Fatalf("%s of %v = %v, %d, want %v", what, of, made, code, want)
	}
}

// wantRows tests that a call returned a matrix, and no error.
func wantRows(t *testing.T, what string, of any, rows [][]int64, code int64, want [][]int64) {
	t.Helper()
	if code != impl.ErrNone || !sameRows(rows, want) {
		t.Fatalf("%s of %v = %v, %d, want %v", what, of, rows, code, want)
	}
}

func TestTensorsAreTensors(t *testing.T) {
	eachTensor(t, func(s *sequence, x impl.Tensor) {
		if !impl.IsTensor(x) || !expectTensor(x) {
			t.Fatalf("IsTensor of %v is false", x)
		}
	})
}

// TestTensorOfSchemeByLeftSides has schemes that are not correct, too.
func TestTensorOfSchemeByLeftSides(t *testing.T) {
	eachSchemeToMove(func(s *sequence, x impl.Scheme) {
		made, code := impl.TensorOfScheme(x)
		wantTensor(t, "TensorOfScheme", x, made, code, expectSchemeTensor(x))
		if s.below(5) > 0 {
			return
		}
		eachEquation(x, func(a, b, c int64) {
			left, code := impl.LeftSide(x, a, b, c)
			wantCode(t, "LeftSide", code, impl.ErrNone)
			number, code := impl.NumberAt(made, a, b, c)
			if number != left || code != impl.ErrNone {
				t.Fatalf("the number at %d, %d, %d of the tensor of %v = %d, %d, want %d", a, b, c, x, number, code, left)
			}
		})
	})
}

func TestTensorsOfFullSchemes(t *testing.T) {
	s := &sequence{}
	eachSize(func(p, n, m, k int64) {
		for _, products := range []int{29, impl.MaxProducts} {
			x := someScheme(s, p, n, m, k, products)
			made, code := impl.TensorOfScheme(x)
			wantTensor(t, "TensorOfScheme", x, made, code, expectSchemeTensor(x))
		}
	})
}

func TestTensorsOfSchemesWithoutProducts(t *testing.T) {
	eachSize(func(p, n, m, k int64) {
		x := impl.Scheme{Prime: p, Rows: n, Inner: m, Cols: k}
		made, code := impl.TensorOfScheme(x)
		zero := makeTensor(p, [3]int64{n * m, m * k, n * k}, func(i, j, l int64) int64 { return 0 })
		wantTensor(t, "TensorOfScheme", x, made, code, zero)
	})
}

func TestMatrixTensorByRightSides(t *testing.T) {
	eachSize(func(p, n, m, k int64) {
		x := expectStandard(p, n, m, k)
		made, code := impl.MatrixTensor(p, n, m, k)
		wantTensor(t, "MatrixTensor", x, made, code, expectSchemeTensor(x))
		eachEquation(x, func(a, b, c int64) {
			right, code := impl.RightSide(x, a, b, c)
			wantCode(t, "RightSide", code, impl.ErrNone)
			number, code := impl.NumberAt(made, a, b, c)
			if number != right || right != expectRight(x, a, b, c) || code != impl.ErrNone {
				t.Fatalf("the number at %d, %d, %d of the matrix tensor of %v = %d, %d, want %d", a, b, c, x, number, code, right)
			}
		})
		for _, y := range correctSchemes(p, n, m, k) {
			made, code := impl.TensorOfScheme(y)
			wantTensor(t, "TensorOfScheme, which is the matrix tensor,", y, made, code, matrixTensor(t, p, n, m, k))
		}
	})
}

func TestNumberAt(t *testing.T) {
	eachTensor(t, func(s *sequence, x impl.Tensor) {
		place := 0
		eachPlace(sidesOf(x), func(i, j, k int64) {
			number, code := impl.NumberAt(x, i, j, k)
			if number != x.Numbers[place] || code != impl.ErrNone {
				t.Fatalf("NumberAt %d, %d, %d of %v = %d, %d, want %d", i, j, k, x, number, code, x.Numbers[place])
			}
			place++
		})
	})
}

func TestSlices(t *testing.T) {
	eachTensor(t, func(s *sequence, x impl.Tensor) {
		for side, length := range sidesOf(x) {
			for at := range length {
				rows, code := impl.SliceOf(x, int64(side), at)
				wantRows(t, fmt.Sprint("SliceOf at ", at, " of the side ", side), x, rows, code, expectSlice(x, int64(side), at))
			}
		}
	})
}

// TestSlicesAsExamples has the numbers 0 to 4 in turn, with sides that differ.
func TestSlicesAsExamples(t *testing.T) {
	x := impl.Tensor{Prime: 5, I: 2, J: 3, K: 1, Numbers: []int64{0, 1, 2, 3, 4, 0}}
	for _, example := range []struct {
		side, at int64
		want     [][]int64
	}{
		{0, 0, [][]int64{{0}, {1}, {2}}}, {0, 1, [][]int64{{3}, {4}, {0}}},
		{1, 0, [][]int64{{0, 3}}}, {1, 1, [][]int64{{1, 4}}}, {1, 2, [][]int64{{2, 0}}},
		{2, 0, [][]int64{{0, 1, 2}, {3, 4, 0}}},
	} {
		rows, code := impl.SliceOf(x, example.side, example.at)
		wantRows(t, fmt.Sprint("SliceOf at ", example.at, " of the side ", example.side), x, rows, code, example.want)
	}
}

// TestTurnsMoveSlices tests that the slices of a side are those of the side before it of the turn.
func TestTurnsMoveSlices(t *testing.T) {
	eachTensor(t, func(s *sequence, x impl.Tensor) {
		turn, code := impl.TurnTensor(x)
		wantTensor(t, "TurnTensor", x, turn, code, expectTurn(x))
		for side, length := range sidesOf(x) {
			at := s.below(length)
			rows, code := impl.SliceOf(turn, int64(side+2)%3, at)
			wantRows(t, fmt.Sprint("SliceOf the turn at ", at, " for the side ", side), x, rows, code, expectSlice(x, int64(side), at))
		}
	})
}

func TestAddTensors(t *testing.T) {
	s := &sequence{}
	for _, p := range primes {
		for _, sides := range someSides {
			list := tensorsOf(s, p, sides)
			for at, x := range list {
				y, k := list[(at+3)%len(list)], s.below(p)
				made, code := impl.AddTensors(x, y, k)
				wantTensor(t, fmt.Sprint("AddTensors with ", k, " times ", y), x, made, code, expectAdded(x, y, k))
				made, code = impl.AddTensors(x, y, 0)
				wantTensor(t, "AddTensors with nothing", x, made, code, x)
				made, code = impl.AddTensors(x, x, p-1)
				wantTensor(t, "AddTensors with what takes it away", x, made, code, list[0])
			}
		}
	}
}

// pairsOfTensors calls do for tensors of schemes and others, with each other.
func pairsOfTensors(t *testing.T, do func(s *sequence, x, y impl.Tensor)) {
	t.Helper()
	s := &sequence{}
	for _, p := range primes {
		list := []impl.Tensor{
			matrixTensor(t, p, 1, 1, 1), matrixTensor(t, p, 1, 2, 1), matrixTensor(t, p, 2, 1, 3), matrixTensor(t, p, 3, 3, 1),
			tensorOf(t, strassen(p)), tensorOf(t, winograd(p)), tensorOf(t, expectJoinScheme(p, 2, 2, 3)),
			tensorOf(t, expectJoinRows(expectStandard(p, 1, 1, 2), expectStandard(p, 1, 1, 2))), tensorOf(t, someScheme(s, p, 1, 3, 2, 2)),
		}
		for _, sides := range [][3]int64{{1, 1, 1}, {1, 2, 3}, {3, 2, 2}, {4, 1, 5}, {3, 3, 3}, {8, 1, 1}, {9, 1, 1}, {1, 9, 2}, {1, 8, 9}} {
			list = append(list, tensorsOf(s, p, sides)[s.below(3):]...)
		}
		for _, x := range list {
			for _, y := range list {
				do(s, x, y)
			}
		}
	}
}

func TestKroneckerTensors(t *testing.T) {
	pairsOfTensors(t, func(s *sequence, x, y impl.Tensor) {
		made, code := impl.KroneckerTensors(x, y)
		if max(x.I*y.I, x.J*y.J, x.K*y.K) > impl.MaxSide {
			wantError(t, "KroneckerTensors", made, code, impl.ErrLimit)
			return
		}
		wantTensor(t, fmt.Sprint("KroneckerTensors with ", y), x, made, code, expectKronecker(x, y))
	})
}

// TestKroneckerOfMatrixTensors has sizes for which the places of matrices stand in the order of a
// Kronecker product.
func TestKroneckerOfMatrixTensors(t *testing.T) {
	for _, p := range primes {
		for n := int64(1); n <= impl.MaxSize; n++ {
			made, code := impl.KroneckerTensors(matrixTensor(t, p, n, 1, 1), matrixTensor(t, p, 1, 1, 3))
			wantTensor(t, "KroneckerTensors", n, made, code, matrixTensor(t, p, n, 1, 3))
		}
	}
}

func TestDirectSum(t *testing.T) {
	pairsOfTensors(t, func(s *sequence, x, y impl.Tensor) {
		made, code := impl.DirectSum(x, y)
		if max(x.I+y.I, x.J+y.J, x.K+y.K) > impl.MaxSide {
			wantError(t, "DirectSum", made, code, impl.ErrLimit)
			return
		}
		wantTensor(t, fmt.Sprint("DirectSum with ", y), x, made, code, expectDirectSum(x, y))
	})
}

func TestContractTensor(t *testing.T) {
	eachTensor(t, func(s *sequence, x impl.Tensor) {
		for side, length := range sidesOf(x) {
			for range 3 {
				numbers := someList(s, x.Prime, length)
				rows, code := impl.ContractTensor(x, int64(side), numbers)
				what := fmt.Sprint("ContractTensor of the side ", side, " with ", numbers)
				wantRows(t, what, x, rows, code, expectContracted(x, int64(side), numbers))
			}
		}
	})
}

// TestContractionsWithOneNumber tests that they are multiples of slices.
func TestContractionsWithOneNumber(t *testing.T) {
	eachTensor(t, func(s *sequence, x impl.Tensor) {
		for side, length := range sidesOf(x) {
			numbers, at := make([]int64, length), s.below(length)
			rows, code := impl.ContractTensor(x, int64(side), numbers)
			wantSame(t, "numbers other than 0 of a contraction with zeros", len(nonZeros(rows)), 0)
			wantCode(t, "ContractTensor", code, impl.ErrNone)
			numbers[at] = 1
			rows, code = impl.ContractTensor(x, int64(side), numbers)
			wantRows(t, fmt.Sprint("ContractTensor of the side ", side, " with ", numbers), x, rows, code, expectSlice(x, int64(side), at))
		}
	})
}

func nonZeros(rows [][]int64) []int64 {
	return slices.DeleteFunc(slices.Concat(rows...), func(number int64) bool { return number == 0 })
}
