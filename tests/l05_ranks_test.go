package tests

import (
	"fmt"
	"sync"
	"testing"

	"loop.example/g01262/impl"
)

func ranksOfTensor(t *testing.T, x impl.Tensor) [3]int64 {
	t.Helper()
	ranks, code := impl.FlattenRanks(x)
	if len(ranks) != 3 || code != impl.ErrNone {
		t.Fatalf("FlattenRanks of %v = %v, %d", x, ranks, code)
	}
	return [3]int64(ranks)
}

func rowRank(t *testing.T, p int64, rows [][]int64) int64 {
	t.Helper()
	rank, code := impl.RowRank(p, rows)
	if code != impl.ErrNone {
		t.Fatalf("RowRank of %v modulo %d: code %d", rows, p, code)
	}
	return rank
}

func wantRowRank(t *testing.T, p int64, rows [][]int64, want int64) {
	t.Helper()
	if rank := rowRank(t, p, rows); rank != want {
		t.Fatalf("RowRank of %v modulo %d = %d, want %d", rows, p, rank, want)
	}
}

func TestFlattenRanksExample(t *testing.T) {
	wantSame(t, "FlattenRanks of the matrix tensor of 2, 2, 2 and 2", ranksOfTensor(t, matrixTensor(t, 2, 2, 2, 2)), [3]int64{4, 4, 4})
}

func TestFlattenRanks(t *testing.T) {
	eachTensor(t, func(s *sequence, x impl.Tensor) {
		want := expectRanks(x)
		if ranks := ranksOfTensor(t, x); ranks != want {
			t.Fatalf("FlattenRanks of %v = %v, want %v", x, ranks, want)
		}
		for side, rank := range want {
			wantRowRank(t, x.Prime, expectFlattening(x, int64(side)), rank)
		}
	})
}

// TestFlattenRanksOfMatrixTensors tests that they are the numbers of places: no row of a flattening is
// a sum of others.
func TestFlattenRanksOfMatrixTensors(t *testing.T) {
	eachSize(func(p, n, m, k int64) {
		wantSame(t, fmt.Sprint("FlattenRanks of the matrix tensor of ", p, n, m, k), ranksOfTensor(t, matrixTensor(t, p, n, m, k)), [3]int64{n * m, m * k, n * k})
	})
}

// TestFlattenRanksOfSchemes tests that no scheme has fewer products than the ranks of its tensor.
func TestFlattenRanksOfSchemes(t *testing.T) {
	eachSchemeToMove(func(s *sequence, x impl.Scheme) {
		for side, rank := range ranksOfTensor(t, tensorOf(t, x)) {
			if rank > int64(len(x.Products)) {
				t.Fatalf("the rank %d at the side %d of %v is more than it has products", rank, side, x)
			}
		}
	})
}

// TestFlattenRanksAtOnce calls from many goroutines, with one tensor.
func TestFlattenRanksAtOnce(t *testing.T) {
	s := &sequence{}
	x := tensorsOf(s, 5, [3]int64{9, 9, 9})[4]
	want := fmt.Sprint(expectRanks(x))
	var group sync.WaitGroup
	for range 50 {
		group.Go(func() {
			for range 10 {
				if ranks, code := impl.FlattenRanks(x); fmt.Sprint(ranks) != want || code != impl.ErrNone {
					t.Errorf("FlattenRanks = %v, %d, want %s", ranks, code, want)
				}
			}
		})
	}
	group.Wait()
}

// TestRowRankOfAllSmallMatrices compares with counts of the sums of multiples of the rows.
func TestRowRankOfAllSmallMatrices(t *testing.T) {
	for _, p := range primes {
		for rows := int64(1); rows <= 4; rows++ {
			for cols := int64(1); cols <= 4; cols++ {
				if all := power(p, rows*cols); all <= 1<<10 {
					for number := range all {
						matrix := matrixOf(number, p, rows, cols)
						wantRowRank(t, p, matrix, countedRank(p, matrix))
					}
				}
			}
		}
	}
}

// thinMatrix returns the product of matrices of few columns and of few rows, whose rank is at most
// this few.
func thinMatrix(s *sequence, p, rows, cols, few int64) [][]int64 {
	return expectProduct(p, someMatrix(s, p, rows, few), someMatrix(s, p, few, cols))
}

// TestRowRankByCounting has more rows than columns, and more columns than rows.
func TestRowRankByCounting(t *testing.T) {
	s := &sequence{}
	for _, p := range primes {
		for range 200 {
			rows, cols, few := 1+s.below(9), 1+s.below(5), 1+s.below(4)
			matrix := thinMatrix(s, p, rows, cols, few)
			rank := countedRank(p, matrix)
			wantRowRank(t, p, matrix, rank)
			wantRowRank(t, p, transposed(matrix), rank)
			wantSame(t, fmt.Sprint("the expected rank of ", matrix), expectRowRank(p, matrix), rank)
		}
	}
}

// TestRowRankOfAllShapes tests all numbers of rows and columns, up to MaxSide rows of MaxSide times
// MaxSide numbers.
func TestRowRankOfAllShapes(t *testing.T) {
	s := &sequence{}
	for _, p := range primes {
		for rows := int64(1); rows <= impl.MaxSide; rows++ {
			for cols := int64(1); cols <= impl.MaxSide*impl.MaxSide; cols++ {
				matrix := someMatrix(s, p, rows, cols)
				wantRowRank(t, p, matrix, expectRowRank(p, matrix))
				matrix = thinMatrix(s, p, rows, cols, 1+s.below(9))
				wantRowRank(t, p, matrix, expectRowRank(p, matrix))
				wantRowRank(t, p, zeros(rows, cols), 0)
			}
		}
	}
}

// TestRowRankOfDisorder has rows whose only numbers are in the last columns, or in falling order.
func TestRowRankOfDisorder(t *testing.T) {
	for _, p := range primes {
		for rank := range int64(impl.MaxSide + 1) {
			matrix := zeros(impl.MaxSide, impl.MaxSide*impl.MaxSide)
			for i := range rank {
				matrix[impl.MaxSide-1-i][80-i] = p - 1
				if i > 0 {
					matrix[impl.MaxSide-1-i][80] = 1
				}
			}
			wantRowRank(t, p, matrix, rank)
		}
	}
}

// TestRowRankOfOtherPrimes has matrices whose ranks depend on the prime.
func TestRowRankOfOtherPrimes(t *testing.T) {
	for _, example := range []struct {
		rows  [][]int64
		ranks [3]int64
	}{
		{[][]int64{{0, 1, 1}, {1, 0, 1}, {1, 1, 0}}, [3]int64{2, 3, 3}},
		{[][]int64{{1, 1, 0}, {0, 1, 1}, {1, 0, 1}}, [3]int64{2, 3, 3}},
		{[][]int64{{1, 0, 0, 1}, {0, 1, 0, 1}, {0, 0, 1, 1}, {1, 1, 1, 0}}, [3]int64{4, 3, 4}},
	} {
		for at, p := range primes {
			wantRowRank(t, p, example.rows, example.ranks[at])
			wantRowRank(t, p, transposed(example.rows), example.ranks[at])
		}
	}
	wantRowRank(t, 5, [][]int64{{2, 1, 1}, {1, 2, 1}, {0, 1, 2}}, 2)
	wantRowRank(t, 3, [][]int64{{2, 1, 1}, {1, 2, 1}, {0, 1, 2}}, 3)
	wantRowRank(t, 5, [][]int64{{1, 2}, {2, 4}}, 1)
	wantRowRank(t, 3, [][]int64{{2, 1}, {1, 2}}, 1)
	wantRowRank(t, 5, [][]int64{{2, 1}, {1, 2}}, 2)
}
