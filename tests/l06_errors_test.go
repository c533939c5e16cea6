package tests

import (
	"fmt"
	"testing"

	"loop.example/g01262/impl"
)

// costCalls returns calls with other arguments that are good for any square scheme.
func costCalls() []schemeCall {
	return append([]schemeCall{
		{"CostOf", func(x impl.Scheme) (any, int64) { return pack(impl.CostOf(x)) }},
	}, squareCalls()...)
}

// squareCalls returns those of costCalls for which the scheme has to be square.
func squareCalls() []schemeCall {
	return []schemeCall{
		{"RepeatedCost of 0 levels", func(x impl.Scheme) (any, int64) { return pack(impl.RepeatedCost(x, 0)) }},
		{"RepeatedCost of 8 levels", func(x impl.Scheme) (any, int64) { return pack(impl.RepeatedCost(x, 8)) }},
		{"MixedCost of 0 levels", func(x impl.Scheme) (any, int64) { return pack(impl.MixedCost(x, 0, 1000)) }},
		{"MixedCost of 3 levels", func(x impl.Scheme) (any, int64) { return pack(impl.MixedCost(x, 3, 1)) }},
		{"BestLevels of 0 levels", func(x impl.Scheme) (any, int64) { return pack(impl.BestLevels(x, 0, 1)) }},
		{"BestLevels of 4 levels", func(x impl.Scheme) (any, int64) { return pack(impl.BestLevels(x, 4, 20)) }},
		{"FirstGain", func(x impl.Scheme) (any, int64) { return pack(impl.FirstGain(x, 64)) }},
		{"GreaterSize of 1", func(x impl.Scheme) (any, int64) { return pack(impl.GreaterSize(x, 1)) }},
		{"GreaterSize of 200", func(x impl.Scheme) (any, int64) { return pack(impl.GreaterSize(x, 200)) }},
		{"IsExponentAtMost", func(x impl.Scheme) (any, int64) { return pack(impl.IsExponentAtMost(x, 24, 1)) }},
		{"CompareExponents with itself", func(x impl.Scheme) (any, int64) { return pack(impl.CompareExponents(x, x)) }},
		{"CompareExponents as the first", func(x impl.Scheme) (any, int64) { return pack(impl.CompareExponents(x, strassen(2))) }},
		{"CompareExponents as the second", func(x impl.Scheme) (any, int64) { return pack(impl.CompareExponents(expectStandard(3, 3, 3, 3), x)) }},
	}
}

// notLevels, notBases and the others are values out of the ranges of chapter 6; some are in their range
// in their lowest bytes.
var (
	notLevels  = []int64{-1, impl.MaxLevels + 1, -8, 10, 256, 1 << 32, 1<<63 - 1, -1 << 63}
	notBases   = []int64{0, 1001, -1, -1000, 1 << 32, 1<<32 + 1, 1<<63 - 1, -1 << 63}
	notPlain   = []int64{0, 50001, -1, -50000, 1000000, 1 << 32, 1<<32 + 1, 1<<63 - 1, -1 << 63}
	notGreater = []int64{0, 1000001, -1, -1000000, 1 << 32, 1<<32 + 1, 1<<63 - 1, -1 << 63}
	notNums    = []int64{-1, 25, -24, 256, 1 << 32, 1<<63 - 1, -1 << 63}
	notDens    = []int64{0, 9, -1, -8, 257, 1<<32 + 1, 1<<63 - 1, -1 << 63}
)

// badCostCalls returns calls each of which would have an error of its own for a square scheme.
func badCostCalls() []schemeCall {
	var list []schemeCall
	for _, levels := range notLevels {
		list = append(list,
			schemeCall{fmt.Sprint("RepeatedCost of levels ", levels), func(x impl.Scheme) (any, int64) { return pack(impl.RepeatedCost(x, levels)) }},
			schemeCall{fmt.Sprint("MixedCost of levels ", levels), func(x impl.Scheme) (any, int64) { return pack(impl.MixedCost(x, levels, 1)) }},
			schemeCall{fmt.Sprint("BestLevels of levels ", levels), func(x impl.Scheme) (any, int64) { return pack(impl.BestLevels(x, levels, 1000)) }},
		)
	}
	for _, base := range notBases {
		list = append(list,
			schemeCall{fmt.Sprint("MixedCost of the base ", base), func(x impl.Scheme) (any, int64) { return pack(impl.MixedCost(x, 0, base)) }},
			schemeCall{fmt.Sprint("MixedCost of 8 levels and the base ", base), func(x impl.Scheme) (any, int64) { return pack(impl.MixedCost(x, 8, base)) }},
			schemeCall{fmt.Sprint("BestLevels of the base ", base), func(x impl.Scheme) (any, int64) { return pack(impl.BestLevels(x, 8, base)) }},
			schemeCall{fmt.Sprint("BestLevels of no levels and the base ", base), func(x impl.Scheme) (any, int64) { return pack(impl.BestLevels(x, 0, base)) }},
			schemeCall{fmt.Sprint("FirstGain of the base ", base), func(x impl.Scheme) (any, int64) { return pack(impl.FirstGain(x, base)) }},
		)
	}
	for _, size := range notGreater {
		list = append(list, schemeCall{fmt.Sprint("GreaterSize of ", size), func(x impl.Scheme) (any, int64) { return pack(impl.GreaterSize(x, size)) }})
	}
	for _, num := range notNums {
		list = append(list, schemeCall{fmt.Sprint("IsExponentAtMost of the num ", num), func(x impl.Scheme) (any, int64) { return pack(impl.IsExponentAtMost(x, num, 1)) }})
	}
	for _, den := range notDens {
		list = append(list, schemeCall{fmt.Sprint("IsExponentAtMost of the den ", den), func(x impl.Scheme) (any, int64) { return pack(impl.IsExponentAtMost(x, 1, den)) }})
	}
	return list
}

// TestCostsOfNoSchemes tests that ErrInvalid comes first. notSchemes has those that would not be square
// either, or would have costs that are too great.
func TestCostsOfNoSchemes(t *testing.T) {
	for name, x := range notSchemes() {
		for _, call := range append(costCalls(), badCostCalls()...) {
			result, code := call.run(x)
			wantError(t, call.name+" of a scheme with "+name, result, code, impl.ErrInvalid)
		}
	}
}

// TestCostsOfZeroForms has square schemes with a product of which one form, or each, is 0 everywhere:
// they are no schemes (chapter 1), so that no weight less 1 is below 0.
func TestCostsOfZeroForms(t *testing.T) {
	for _, p := range primes {
		for _, text := range []string{"0 1 1", "1 0 1", "1 1 0", "0 0 1", "0 0 0"} {
			for _, x := range []impl.Scheme{
				makeScheme(p, 2, 2, 2, text), makeScheme(p, 3, 3, 3, text+"; 1 1 1"), makeScheme(p, 2, 2, 2, "11 1 1; "+text),
			} {
				for _, call := range append(costCalls(), badCostCalls()...) {
					result, code := call.run(x)
					wantError(t, call.name+" of "+text, result, code, impl.ErrInvalid)
				}
			}
		}
	}
}

// TestComparedExponentsOfNoSchemes tests that ErrInvalid is told for either scheme ahead of what is wrong
// with the other one: one that is not square, or has no products.
func TestComparedExponentsOfNoSchemes(t *testing.T) {
	for name, wrong := range notSchemes() {
		for _, other := range []impl.Scheme{strassen(2), expectStandard(3, 1, 1, 1), expectStandard(5, 1, 2, 3), fullScheme(2, 2, 0), wrong} {
			compared, code := impl.CompareExponents(wrong, other)
			wantError(t, "CompareExponents of first a scheme with "+name, compared, code, impl.ErrInvalid)
			compared, code = impl.CompareExponents(other, wrong)
			wantError(t, "CompareExponents of second a scheme with "+name, compared, code, impl.ErrInvalid)
		}
	}
}

// TestCostsOfSchemesThatAreNotSquare has all sizes that are not equal, and the size 1. What is out of
// range besides changes nothing; nor do sizes for which there is no power, and costs that are too great.
func TestCostsOfSchemesThatAreNotSquare(t *testing.T) {
	s := &sequence{}
	eachSize(func(p, n, m, k int64) {
		if n == m && m == k && n > 1 {
			return
		}
		for _, products := range []int{0, 1, 7, impl.MaxProducts} {
			x := someScheme(s, p, n, m, k, products)
			for _, call := range append(squareCalls(), badCostCalls()...) {
				result, code := call.run(x)
				wantError(t, fmt.Sprint(call.name, " of ", x), result, code, impl.ErrRange)
			}
			for _, call := range limitedCalls() {
				result, code := call.run(x)
				wantError(t, fmt.Sprint(call.name, " of ", x), result, code, impl.ErrRange)
			}
			wantSame(t, fmt.Sprint("CostOf of ", x), costs(t, x), expectCost(x))
		}
	})
}

// limitedCalls returns calls that fail with ErrNotFound or ErrLimit for a square scheme of the size 2 with
// 30 products.
func limitedCalls() []schemeCall {
	return []schemeCall{
		{"MixedCost that is too great", func(x impl.Scheme) (any, int64) { return pack(impl.MixedCost(x, 8, 1000)) }},
		{"BestLevels that are too great", func(x impl.Scheme) (any, int64) { return pack(impl.BestLevels(x, 8, 1000)) }},
		{"FirstGain that is too great", func(x impl.Scheme) (any, int64) { return pack(impl.FirstGain(x, 1000)) }},
		{"FirstGain that there is not", func(x impl.Scheme) (any, int64) { return pack(impl.FirstGain(x, 1)) }},
		{"GreaterSize that there is not", func(x impl.Scheme) (any, int64) { return pack(impl.GreaterSize(x, 1000000)) }},
	}
}

func TestLimitsOfSquareSchemes(t *testing.T) {
	for at, call := range limitedCalls() {
		want := int64(impl.ErrLimit)
		if at >= 3 {
			want = impl.ErrNotFound
		}
		result, code := call.run(fullScheme(5, 2, 30))
		wantError(t, call.name, result, code, want)
	}
}

// TestCostsOutOfRange has square schemes of all kinds. ErrRange is told ahead of ErrNotFound and ErrLimit,
// which great levels, base sizes and sizes would have.
func TestCostsOutOfRange(t *testing.T) {
	eachSquare(func(s *sequence, x impl.Scheme) {
		for _, call := range badCostCalls() {
			result, code := call.run(x)
			wantError(t, fmt.Sprint(call.name, " of ", x), result, code, impl.ErrRange)
		}
	})
}

// TestCostsAtTheEndsOfRanges has the first and the last value of each range.
func TestCostsAtTheEndsOfRanges(t *testing.T) {
	for _, x := range []impl.Scheme{makeScheme(2, 2, 2, 2, "1 1 1"), makeScheme(5, 3, 3, 3, "1 1 1")} {
		for _, call := range []schemeCall{
			{"RepeatedCost of 0 levels", func(x impl.Scheme) (any, int64) { return pack(impl.RepeatedCost(x, 0)) }},
			{"RepeatedCost of 8 levels", func(x impl.Scheme) (any, int64) { return pack(impl.RepeatedCost(x, 8)) }},
			{"MixedCost of 0 levels and the base 1", func(x impl.Scheme) (any, int64) { return pack(impl.MixedCost(x, 0, 1)) }},
			{"MixedCost of 8 levels and the base 1000", func(x impl.Scheme) (any, int64) { return pack(impl.MixedCost(x, 8, 1000)) }},
			{"BestLevels of 0 levels and the base 1000", func(x impl.Scheme) (any, int64) { return pack(impl.BestLevels(x, 0, 1000)) }},
			{"BestLevels of 8 levels and the base 1", func(x impl.Scheme) (any, int64) { return pack(impl.BestLevels(x, 8, 1)) }},
			{"FirstGain of the base 1", func(x impl.Scheme) (any, int64) { return pack(impl.FirstGain(x, 1)) }},
			{"FirstGain of the base 1000", func(x impl.Scheme) (any, int64) { return pack(impl.FirstGain(x, 1000)) }},
			{"GreaterSize of 1", func(x impl.Scheme) (any, int64) { return pack(impl.GreaterSize(x, 1)) }},
			{"IsExponentAtMost of 0 and 1", func(x impl.Scheme) (any, int64) { return pack(impl.IsExponentAtMost(x, 0, 1)) }},
			{"IsExponentAtMost of 24 and 8", func(x impl.Scheme) (any, int64) { return pack(impl.IsExponentAtMost(x, 24, 8)) }},
		} {
			_, code := call.run(x)
			wantCode(t, call.name, code, impl.ErrNone)
		}
	}
}

func TestPlainCostRange(t *testing.T) {
	for _, size := range notPlain {
		plain, code := impl.PlainCost(size)
		wantError(t, fmt.Sprint("PlainCost of ", size), plain, code, impl.ErrRange)
	}
}

// TestExponentsWithoutProducts has schemes without products, which have no exponents.
func TestExponentsWithoutProducts(t *testing.T) {
	for _, p := range primes {
		for n := int64(2); n <= impl.MaxSize; n++ {
			empty, other := fullScheme(p, n, 0), fullScheme(2, n, 1)
			for _, num := range []int64{0, 24} {
				yes, code := impl.IsExponentAtMost(empty, num, 1)
				wantError(t, "IsExponentAtMost without products", yes, code, impl.ErrRange)
			}
			for _, pair := range [][2]impl.Scheme{{empty, empty}, {empty, other}, {other, empty}} {
				compared, code := impl.CompareExponents(pair[0], pair[1])
				wantError(t, "CompareExponents without products", compared, code, impl.ErrRange)
			}
		}
	}
}

// TestComparedExponentsOfSizes tries all sizes with each other: only square schemes of equal sizes can be
// compared; their primes may differ.
func TestComparedExponentsOfSizes(t *testing.T) {
	s := &sequence{}
	var schemes []impl.Scheme
	eachSize(func(p, n, m, k int64) { schemes = append(schemes, someScheme(s, p, n, m, k, 4)) })
	for _, x := range schemes {
		for _, y := range schemes {
			compared, code := impl.CompareExponents(x, y)
			what := fmt.Sprint("CompareExponents of ", x, " and ", y)
			square := x.Rows > 1 && x.Rows == x.Inner && x.Rows == x.Cols
			if square && x.Rows == y.Rows && x.Rows == y.Inner && x.Rows == y.Cols {
				wantCode(t, what, code, impl.ErrNone)
				wantSame(t, what, compared, int64(0))
				continue
			}
			wantError(t, what, compared, code, impl.ErrRange)
		}
	}
}
