package tests

import (
	"fmt"
	"testing"

	"loop.example/g01262/impl"
)

// symmetryCalls returns calls of the functions of chapter 4 of one scheme with arguments that are
// good for a small scheme of the sizes 2, 2 and 2.
func symmetryCalls() []schemeCall {
	return []schemeCall{
		{"TurnScheme", func(x impl.Scheme) (any, int64) { return pack(impl.TurnScheme(x)) }},
		{"TransposeScheme", func(x impl.Scheme) (any, int64) { return pack(impl.TransposeScheme(x)) }},
		{"ChangeScheme", func(x impl.Scheme) (any, int64) { return pack(impl.ChangeScheme(x, unit(2), unit(2), unit(2))) }},
		{"ScaledScheme", func(x impl.Scheme) (any, int64) { return pack(impl.ScaledScheme(x)) }},
		{"ProfileOf", func(x impl.Scheme) (any, int64) { return pack(impl.ProfileOf(x)) }},
		{"StabiliserNumber", func(x impl.Scheme) (any, int64) { return pack(impl.StabiliserNumber(x)) }},
	}
}

// badSymmetryCalls returns calls each of which would have an error of its own.
func badSymmetryCalls() []schemeCall {
	return []schemeCall{
		{"ChangeScheme by nothing", func(x impl.Scheme) (any, int64) { return pack(impl.ChangeScheme(x, nil, nil, nil)) }},
		{"ChangeScheme by zeros", func(x impl.Scheme) (any, int64) {
			return pack(impl.ChangeScheme(x, zeros(2, 2), zeros(1, 1), zeros(3, 3)))
		}},
		{"ChangeScheme by other sizes", func(x impl.Scheme) (any, int64) { return pack(impl.ChangeScheme(x, unit(4), unit(4), unit(4))) }},
	}
}

func TestSymmetriesOfNoSchemes(t *testing.T) {
	for name, x := range notSchemes() {
		for _, call := range append(symmetryCalls(), badSymmetryCalls()...) {
			result, code := call.run(x)
			wantError(t, call.name+" of a scheme with "+name, result, code, impl.ErrInvalid)
		}
	}
}

// TestEquivalentOfNoSchemes tests that ErrInvalid is told ahead of schemes that are not small.
func TestEquivalentOfNoSchemes(t *testing.T) {
	for name, wrong := range notSchemes() {
		for _, other := range []impl.Scheme{strassen(2), strassen(3), expectStandard(2, 3, 1, 1), expectStandard(5, 3, 3, 3), wrong} {
			equivalent, code := impl.AreEquivalent(wrong, other)
			wantError(t, "AreEquivalent of first a scheme with "+name, equivalent, code, impl.ErrInvalid)
			equivalent, code = impl.AreEquivalent(other, wrong)
			wantError(t, "AreEquivalent of second a scheme with "+name, equivalent, code, impl.ErrInvalid)
		}
	}
}

// notSquares returns lists that are no square of any size modulo p.
func notSquares(p int64) [][][]int64 {
	list := [][][]int64{
		nil, {}, {nil}, {{}}, {nil, nil}, {{}, {}, {}}, unit(4), unit(5), zeros(4, 4), zeros(1, 2), zeros(2, 1), zeros(2, 3), zeros(3, 2),
		zeros(3, 1), zeros(1, 3), zeros(3, 4), zeros(4, 3), zeros(1, 4), zeros(4, 1), zeros(1<<10, 1), zeros(1, 1<<10), {{1, 0}, nil}, {nil, {0, 1}},
	}
	for n := int64(1); n <= impl.MaxSize; n++ {
		for i := range n {
			shorter, longer := unit(n), unit(n)
			shorter[i], longer[i] = shorter[i][1:], append(longer[i], 0)
			list = append(list, shorter, longer)
			for j := range n {
				for _, number := range []int64{p, p + 1, -1, -p, 256, 257, 1 << 32, 1<<32 + 1, 1<<63 - 1, -1 << 63} {
					wrong := unit(n)
					wrong[i][j] = number
					list = append(list, wrong)
				}
			}
		}
	}
	return list
}

func wantNoSquare(t *testing.T, p int64, square [][]int64) {
	t.Helper()
	what := fmt.Sprint(" of ", square, " modulo ", p)
	invertible, code := impl.IsInvertible(p, square)
	wantError(t, "IsInvertible"+what, invertible, code, impl.ErrRange)
	inverse, code := impl.InverseSquare(p, square)
	wantError(t, "InverseSquare"+what, inverse, code, impl.ErrRange)
}

func TestListsThatAreNoSquares(t *testing.T) {
	for _, p := range primes {
		for _, wrong := range notSquares(p) {
			wantNoSquare(t, p, wrong)
		}
	}
}

// TestPrimesOfSquares tests squares that are invertible, that are not, and lists that are none.
func TestPrimesOfSquares(t *testing.T) {
	for _, p := range notPrimes {
		for n := int64(1); n <= impl.MaxSize; n++ {
			wantNoSquare(t, p, unit(n))
			wantNoSquare(t, p, zeros(n, n))
			count, code := impl.CountInvertible(p, n)
			wantError(t, fmt.Sprint("CountInvertible of ", p, n), count, code, impl.ErrRange)
		}
		wantNoSquare(t, p, nil)
		wantNoSquare(t, p, [][]int64{{p - 1}})
	}
}

func TestSizesOfCounts(t *testing.T) {
	for _, n := range notSizes {
		for _, p := range append([]int64{0, 4, -1}, primes...) {
			count, code := impl.CountInvertible(p, n)
			wantError(t, fmt.Sprint("CountInvertible of ", p, n), count, code, impl.ErrRange)
		}
	}
}

// TestSquaresThatAreNotInvertible puts the zero square and others in each of the three places.
func TestSquaresThatAreNotInvertible(t *testing.T) {
	s := &sequence{}
	eachSize(func(p, n, m, k int64) {
		for _, products := range []int{0, 1, 5, impl.MaxProducts} {
			x := someScheme(s, p, n, m, k, products)
			for at, size := range []int64{n, m, k} {
				for _, square := range singularSquares(size) {
					squares := someTriple(s, x)
					squares[at] = square
					made, code := impl.ChangeScheme(x, squares[0], squares[1], squares[2])
					wantError(t, fmt.Sprint("ChangeScheme of ", x, " by ", squares), made, code, impl.ErrState)
					inverse, code := impl.InverseSquare(p, square)
					wantError(t, fmt.Sprint("InverseSquare of ", square), inverse, code, impl.ErrState)
					invertible, code := impl.IsInvertible(p, square)
					wantError(t, fmt.Sprint("IsInvertible of ", square), invertible, code, impl.ErrNone)
				}
			}
		}
	})
}

// singularSquares returns squares that are not invertible for any prime: with a row of zeros, and,
// where there is room, with equal rows or columns.
func singularSquares(n int64) [][][]int64 {
	list := [][][]int64{zeros(n, n)}
	for i := range n {
		withoutRow, equalRows := unit(n), unit(n)
		withoutRow[i][i] = 0
		list = append(list, withoutRow)
		if n > 1 {
			equalRows[i] = unit(n)[(i+1)%n]
			list = append(list, equalRows, transposed(equalRows))
		}
	}
	return list
}

// TestChangesByNoSquares tests that ErrRange is told, for each of the three places, ahead of squares
// that are not invertible in the others.
func TestChangesByNoSquares(t *testing.T) {
	s := &sequence{}
	eachSize(func(p, n, m, k int64) {
		x, sizes := someScheme(s, p, n, m, k, 2), []int64{n, m, k}
		for at, size := range sizes {
			wrong := notMatrices(p, size, size)
			for _, other := range []int64{1, 2, 3, 4} {
				if other != size {
					wrong = append(wrong, unit(other), zeros(other, other))
				}
			}
			for _, square := range wrong {
				squares, singular := someTriple(s, x), triple{zeros(n, n), zeros(m, m), zeros(k, k)}
				squares[at], singular[at] = square, square
				made, code := impl.ChangeScheme(x, squares[0], squares[1], squares[2])
				wantError(t, fmt.Sprint("ChangeScheme of ", x, " by ", squares), made, code, impl.ErrRange)
				made, code = impl.ChangeScheme(x, singular[0], singular[1], singular[2])
				wantError(t, fmt.Sprint("ChangeScheme of ", x, " by ", singular), made, code, impl.ErrRange)
			}
		}
	})
}

// TestSchemesThatAreNotSmall tries all primes and sizes with each other: only small schemes of the
// same sizes can be compared.
func TestSchemesThatAreNotSmall(t *testing.T) {
	s := &sequence{}
	var schemes []impl.Scheme
	eachSize(func(p, n, m, k int64) { schemes = append(schemes, someScheme(s, p, n, m, k, int(s.below(2)))) })
	small := func(x impl.Scheme) bool { return x.Prime == 2 && max(x.Rows, x.Inner, x.Cols) < 3 }
	for i, x := range schemes {
		number, code := impl.StabiliserNumber(x)
		if !small(x) {
			wantError(t, fmt.Sprint("StabiliserNumber of ", x), number, code, impl.ErrRange)
		} else {
			wantCode(t, fmt.Sprint("StabiliserNumber of ", x), code, impl.ErrNone)
		}
		for k, y := range schemes {
			equivalent, code := impl.AreEquivalent(x, y)
			if i != k || !small(x) {
				wantError(t, fmt.Sprint("AreEquivalent of ", x, " and ", y), equivalent, code, impl.ErrRange)
				continue
			}
			wantCode(t, fmt.Sprint("AreEquivalent of ", x), code, impl.ErrNone)
			wantSame(t, fmt.Sprint("AreEquivalent of a scheme and itself, ", x), equivalent, true)
		}
	}
}
