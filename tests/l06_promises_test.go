package tests

import (
	"fmt"
	"testing"

	"loop.example/g01262/impl"
)

// Promise 6: mixed costs with the base size 1 are whole costs, and sizes made greater are powers.

// someBases are base sizes among which are the least and the greatest ones.
var someBases = []int64{1, 2, 3, 4, 7, 8, 16, 31, 32, 64, 100, 243, 310, 311, 500, 729, 999, 1000}

// fullForm returns the form with p - 1 at all places of a square of the size n.
func fullForm(p, n int64) impl.Form {
	var f impl.Form
	for at := range n * n {
		f[at] = byte(p - 1)
	}
	return f
}

// fullScheme returns the square scheme of so many products that costs most.
func fullScheme(p, n int64, products int) impl.Scheme {
	x := impl.Scheme{Prime: p, Rows: n, Inner: n, Cols: n}
	for range products {
		x.Products = append(x.Products, impl.Product{A: fullForm(p, n), B: fullForm(p, n), C: fullForm(p, n)})
	}
	return x
}

// correctSquares returns correct square schemes: standard, known and joined ones.
func correctSquares(p, n int64) []impl.Scheme {
	row, column := expectStandard(p, 1, n, n), expectStandard(p, n, n, 1)
	inner := expectStandard(p, n, 1, n)
	if n == 2 {
		return []impl.Scheme{
			expectStandard(p, 2, 2, 2), strassen(p), winograd(p),
			expectJoinRows(row, row), expectJoinInner(inner, inner), expectJoinCols(column, column),
		}
	}
	return []impl.Scheme{
		expectStandard(p, 3, 3, 3), expectJoinScheme(p, 3, 3, 3),
		expectJoinRows(expectJoinScheme(p, 2, 3, 3), row),
		expectJoinInner(inner, expectJoinScheme(p, 3, 2, 3)),
		expectJoinCols(expectJoinScheme(p, 3, 3, 2), column),
	}
}

// drawnSquares returns square schemes with drawn products, hardly ever correct, and those without and
// with the greatest number of products.
func drawnSquares(s *sequence, p, n int64) []impl.Scheme {
	list := []impl.Scheme{
		fullScheme(p, n, 0), fullScheme(p, n, 1), fullScheme(p, n, 7), fullScheme(p, n, 26), fullScheme(p, n, impl.MaxProducts),
		makeScheme(p, n, n, n, "1 1 1"), makeScheme(p, n, n, n, "1 01 1; 01 01 1"),
	}
	for _, products := range []int{1, 2, 4, 5, 7, 8, 9, 15, 22, 26, 27, 29, impl.MaxProducts} {
		list = append(list, someScheme(s, p, n, n, n, products))
	}
	return list
}

// eachSquare calls do for square schemes of all primes and both sizes.
func eachSquare(do func(s *sequence, x impl.Scheme)) {
	s := &sequence{}
	for _, p := range primes {
		for n := int64(2); n <= impl.MaxSize; n++ {
			for _, x := range append(correctSquares(p, n), drawnSquares(s, p, n)...) {
				do(s, x)
			}
		}
	}
}

// costs, repeated and mixedCost return what the functions tell of schemes for which they have to
// return ErrNone.
func costs(t *testing.T, x impl.Scheme) []int64 {
	t.Helper()
	cost, code := impl.CostOf(x)
	if len(cost) != 4 || code != impl.ErrNone {
		t.Fatalf("CostOf of %v = %v, %d", x, cost, code)
	}
	return cost
}

func repeated(t *testing.T, x impl.Scheme, levels int64) []int64 {
	t.Helper()
	counts, code := impl.RepeatedCost(x, levels)
	if len(counts) != 2 || code != impl.ErrNone {
		t.Fatalf("RepeatedCost of %v and %d = %v, %d", x, levels, counts, code)
	}
	return counts
}

func mixedCost(t *testing.T, x impl.Scheme, levels, base int64) int64 {
	t.Helper()
	cost, code := impl.MixedCost(x, levels, base)
	wantCode(t, fmt.Sprint("MixedCost of ", x, levels, base), code, impl.ErrNone)
	return cost
}

func TestPromise6MixedCostsOfBaseOneAreWholeCosts(t *testing.T) {
	eachSquare(func(s *sequence, x impl.Scheme) {
		for levels := range int64(impl.MaxLevels + 1) {
			counts := repeated(t, x, levels)
			wantSame(t, fmt.Sprint("MixedCost of ", x, levels, 1), mixedCost(t, x, levels, 1), counts[0]+counts[1])
		}
	})
}

// TestPromise6StandardCostsArePlain has all base sizes. What PlainCost does not tell is found by numbers
// of any length.
func TestPromise6StandardCostsArePlain(t *testing.T) {
	for _, p := range primes {
		for n := int64(2); n <= impl.MaxSize; n++ {
			x := standard(t, p, n, n, n)
			for levels, size := range powersOf(n) {
				for base := int64(1); base <= 1000; base++ {
					wantPlain(t, x, int64(levels), base, size*base)
				}
			}
		}
	}
}

// wantPlain tests that a mixed cost is the plain cost of a size, or too great.
func wantPlain(t *testing.T, x impl.Scheme, levels, base, size int64) {
	t.Helper()
	mixed, code := impl.MixedCost(x, levels, base)
	what := fmt.Sprint("MixedCost of a standard scheme, ", x.Rows, levels, base)
	plain := expectPlain(bigOf(size))
	if isTooGreat(plain) {
		wantError(t, what, mixed, code, impl.ErrLimit)
		return
	}
	wantCode(t, what, code, impl.ErrNone)
	wantSame(t, what, mixed, plain.Int64())
	if told, code := impl.PlainCost(size); code == impl.ErrNone {
		wantSame(t, what, mixed, told)
	} else if size <= 50000 {
		t.Fatalf("PlainCost of %d: code %d", size, code)
	}
}

func TestPromise6WholeCostsOfStandardSchemes(t *testing.T) {
	for _, p := range primes {
		for n := int64(2); n <= impl.MaxSize; n++ {
			x := standard(t, p, n, n, n)
			for levels, size := range powersOf(n) {
				cubed := size * size * size
				wantSame(t, "RepeatedCost of a standard scheme", repeated(t, x, int64(levels)), []int64{cubed, cubed - size*size})
			}
		}
	}
}

// TestPromise6TransposedCosts tests that the transposed scheme has the left and the right additions
// exchanged, so that it costs the same used again and again.
func TestPromise6TransposedCosts(t *testing.T) {
	eachSquare(func(s *sequence, x impl.Scheme) {
		y, cost := transposedScheme(t, x), costs(t, x)
		wantSame(t, fmt.Sprint("CostOf, transposed, of ", x), costs(t, y), []int64{cost[0], cost[2], cost[1], cost[3]})
		for levels := range int64(impl.MaxLevels + 1) {
			wantSame(t, fmt.Sprint("RepeatedCost, transposed, of ", x), repeated(t, y, levels), repeated(t, x, levels))
		}
	})
}

func TestPromise6TransposedCostsOfAllSizes(t *testing.T) {
	eachSchemeToMove(func(s *sequence, x impl.Scheme) {
		cost := costs(t, x)
		wantSame(t, fmt.Sprint("CostOf, transposed, of ", x), costs(t, transposedScheme(t, x)), []int64{cost[0], cost[2], cost[1], cost[3]})
	})
}

// TestPromise6TurnedCosts has correct schemes: as many places of X, Y and Z are in use in them, so that
// turns keep the sum of all additions.
func TestPromise6TurnedCosts(t *testing.T) {
	for _, p := range primes {
		for n := int64(2); n <= impl.MaxSize; n++ {
			for _, x := range correctSquares(p, n) {
				wantCorrect(t, "a square scheme", x)
				first, second := costs(t, x), costs(t, turned(t, x))
				wantSame(t, fmt.Sprint("CostOf, turned, of ", x), second[0], first[0])
				wantSame(t, fmt.Sprint("CostOf, turned, of ", x), second[1]+second[2]+second[3], first[1]+first[2]+first[3])
				wantSame(t, "right additions are left ones of the turned scheme", second[1], first[2])
			}
		}
	}
}

// TestPromise6SizesMadeGreaterArePowers has schemes of all kinds: their products do not matter.
func TestPromise6SizesMadeGreaterArePowers(t *testing.T) {
	eachSquare(func(s *sequence, x impl.Scheme) {
		for _, size := range append([]int64{1, 2, 3, 5, 6, 7, 10, 100, 255, 256, 1 + s.below(256), 1 + s.below(256)}, powersOf(x.Rows)...) {
			made, code := impl.GreaterSize(x, size)
			if size > 256 && x.Rows == 2 {
				wantError(t, "GreaterSize", made, code, impl.ErrNotFound)
				continue
			}
			wantCode(t, "GreaterSize", code, impl.ErrNone)
			wantPowerFor(t, x.Rows, size, made)
		}
	})
}

// wantPowerFor tests that a size made greater is a power that is not below the size, and that the power
// before it is.
func wantPowerFor(t *testing.T, n, size, made int64) {
	t.Helper()
	rest, levels := made, 0
	for rest > 1 && rest%n == 0 {
		rest /= n
		levels++
	}
	if rest != 1 || levels > impl.MaxLevels || made < size || made > 1 && made/n >= size {
		t.Fatalf("GreaterSize of %d for the size %d = %d", size, n, made)
	}
}

// TestPromise6BestLevelsAreBeatenByNone has base sizes so small that MixedCost can tell all costs.
func TestPromise6BestLevelsAreBeatenByNone(t *testing.T) {
	eachSquare(func(s *sequence, x impl.Scheme) {
		for levels := range int64(impl.MaxLevels + 1) {
			for _, base := range []int64{1, 2, 3, 5, 12, 1 + s.below(1000)} {
				if power(x.Rows, levels)*base > 1000 {
					continue
				}
				best, code := impl.BestLevels(x, levels, base)
				what := fmt.Sprint("BestLevels of ", x, levels, base)
				wantCode(t, what, code, impl.ErrNone)
				wantLeast(t, what, x, levels, base, best)
			}
		}
	})
}

// wantLeast tests that all fewer levels cost more, and all other ones no less.
func wantLeast(t *testing.T, what string, x impl.Scheme, levels, base, best int64) {
	t.Helper()
	cost := func(l int64) int64 { return mixedCost(t, x, l, power(x.Rows, levels-l)*base) }
	if best < 0 || best > levels {
		t.Fatalf("%s = %d", what, best)
	}
	for l := range levels + 1 {
		if cost(l) < cost(best) || l < best && cost(l) == cost(best) {
			t.Fatalf("%s = %d, but %d levels cost %d", what, best, l, cost(l))
		}
	}
}

// TestPromise6FirstGainsAreGains compares with plain costs as the functions tell them, and otherwise
// with numbers of any length.
func TestPromise6FirstGainsAreGains(t *testing.T) {
	found := map[int64]int{}
	eachSquare(func(s *sequence, x impl.Scheme) {
		for _, base := range append([]int64{1 + s.below(1000)}, someBases...) {
			gain, code := impl.FirstGain(x, base)
			what := fmt.Sprint("FirstGain of ", x, base)
			if code != impl.ErrNone {
				wantError(t, what, gain, code, code)
				continue
			}
			found[gain]++
			for l := int64(1); l <= gain; l++ {
				plain := expectPlain(bigOf(power(x.Rows, l) * base)).Int64()
				if mixed := mixedCost(t, x, l, base); mixed < plain != (l == gain) {
					t.Fatalf("%s = %d, but %d levels cost %d, and plain %d", what, gain, l, mixed, plain)
				}
			}
		}
	})
	if len(found) < 5 {
		t.Fatalf("first gains %v: too few to test anything", found)
	}
}
