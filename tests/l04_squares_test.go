package tests

import (
	"fmt"
	"testing"

	"loop.example/g01262/impl"
)

// wantInverse tests what IsInvertible and InverseSquare tell of a square against the definition.
func wantInverse(t *testing.T, p int64, square [][]int64) {
	t.Helper()
	what := fmt.Sprint("of ", square, " modulo ", p)
	want := determinant(square)%p != 0
	invertible, code := impl.IsInvertible(p, square)
	wantCode(t, "IsInvertible "+what, code, impl.ErrNone)
	if invertible != want {
		t.Fatalf("IsInvertible %s = %v", what, invertible)
	}
	inverse, code := impl.InverseSquare(p, square)
	if !want {
		wantError(t, "InverseSquare "+what, inverse, code, impl.ErrState)
		return
	}
	wantCode(t, "InverseSquare "+what, code, impl.ErrNone)
	one := unit(int64(len(square)))
	for _, pair := range [][2][][]int64{{square, inverse}, {inverse, square}} {
		made, code := impl.PlainProduct(p, pair[0], pair[1])
		wantCode(t, "PlainProduct of a square and its inverse", code, impl.ErrNone)
		if !sameRows(made, one) || !sameRows(expectProduct(p, pair[0], pair[1]), one) {
			t.Fatalf("InverseSquare %s = %v", what, inverse)
		}
	}
}

// TestInversesOfAllSquares takes all squares, but of the size 3 for 5 one of a few.
func TestInversesOfAllSquares(t *testing.T) {
	for _, p := range primes {
		for n := int64(1); n <= impl.MaxSize; n++ {
			all, step := power(p, n*n), int64(1)
			if all > 100000 {
				step = 97
			}
			for number := int64(0); number < all; number += step {
				wantInverse(t, p, matrixOf(number, p, n, n))
			}
		}
	}
}

// TestInversesByColumns compares with inverses that were found by trying all columns.
func TestInversesByColumns(t *testing.T) {
	s := &sequence{}
	for _, p := range primes {
		for n := int64(1); n <= impl.MaxSize; n++ {
			for range 40 {
				square := someMatrix(s, p, n, n)
				inverse, code := impl.InverseSquare(p, square)
				want := expectInverse(p, square)
				wantSame(t, fmt.Sprint("InverseSquare of ", square, " modulo ", p), inverse, want)
				wantSame(t, "code", code == impl.ErrNone, want != nil)
			}
		}
	}
}

// The inverses of this test were found by hand; the first one is the document's example.
func TestInversesAsExamples(t *testing.T) {
	for _, example := range []struct {
		p       int64
		square  [][]int64
		inverse [][]int64
	}{
		{3, [][]int64{{1, 1}, {0, 1}}, [][]int64{{1, 2}, {0, 1}}},
		{5, [][]int64{{3}}, [][]int64{{2}}},
		{5, [][]int64{{1, 2}, {3, 4}}, [][]int64{{3, 1}, {4, 2}}},
		{2, [][]int64{{0, 1}, {1, 1}}, [][]int64{{1, 1}, {1, 0}}},
		{5, [][]int64{{0, 2}, {4, 0}}, [][]int64{{0, 4}, {3, 0}}},
		{3, [][]int64{{0, 0, 1}, {1, 0, 0}, {0, 2, 0}}, [][]int64{{0, 1, 0}, {0, 0, 2}, {1, 0, 0}}},
		{2, [][]int64{{1, 1, 1}, {0, 1, 1}, {0, 0, 1}}, [][]int64{{1, 1, 0}, {0, 1, 1}, {0, 0, 1}}},
	} {
		inverse, code := impl.InverseSquare(example.p, example.square)
		wantCode(t, "InverseSquare", code, impl.ErrNone)
		wantSame(t, fmt.Sprint("InverseSquare of ", example.square), inverse, example.inverse)
		back, code := impl.InverseSquare(example.p, example.inverse)
		wantCode(t, "InverseSquare", code, impl.ErrNone)
		wantSame(t, fmt.Sprint("InverseSquare of ", example.inverse), back, example.square)
	}
}

// TestInvertibleForSomePrimesAlone has the determinants 2, 3 and 5.
func TestInvertibleForSomePrimesAlone(t *testing.T) {
	two := [][]int64{{0, 1, 1}, {1, 0, 1}, {1, 1, 0}}
	three := [][]int64{{2, 1}, {1, 2}}
	five := [][]int64{{2, 1, 1}, {1, 2, 1}, {0, 1, 2}}
	for _, example := range []struct {
		p      int64
		square [][]int64
		want   bool
	}{
		{2, two, false}, {3, two, true}, {5, two, true},
		{3, three, false}, {5, three, true},
		{3, five, true}, {5, five, false},
	} {
		invertible, code := impl.IsInvertible(example.p, example.square)
		wantCode(t, "IsInvertible", code, impl.ErrNone)
		wantSame(t, fmt.Sprint("IsInvertible of ", example.square, " modulo ", example.p), invertible, example.want)
	}
}

func TestCountInvertible(t *testing.T) {
	for at, counts := range [][3]int64{{1, 6, 168}, {2, 48, 11232}, {4, 480, 1488000}} {
		for n, want := range counts {
			count, code := impl.CountInvertible(primes[at], int64(n)+1)
			wantCode(t, "CountInvertible", code, impl.ErrNone)
			wantSame(t, fmt.Sprint("CountInvertible of ", primes[at], n+1), count, want)
		}
	}
}

// TestCountInvertibleByCounting counts the squares that IsInvertible tells, but for the greatest.
func TestCountInvertibleByCounting(t *testing.T) {
	for _, p := range primes {
		for n := int64(1); n <= impl.MaxSize && power(p, n*n) < 100000; n++ {
			counted := int64(0)
			for number := range power(p, n*n) {
				if invertible, _ := impl.IsInvertible(p, matrixOf(number, p, n, n)); invertible {
					counted++
				}
			}
			count, code := impl.CountInvertible(p, n)
			wantCode(t, "CountInvertible", code, impl.ErrNone)
			wantSame(t, fmt.Sprint("CountInvertible of ", p, n), count, counted)
		}
	}
}
