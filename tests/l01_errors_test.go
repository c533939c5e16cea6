package tests

import (
	"fmt"
	"testing"

	"loop.example/g01262/impl"
)

// notSchemes returns schemes that break one condition each, by the name of what is wrong.
func notSchemes() map[string]impl.Scheme {
	list := map[string]impl.Scheme{"everything 0": {}}
	for _, p := range notPrimes {
		list[fmt.Sprint("the prime ", p)] = impl.Scheme{Prime: p, Rows: 1, Inner: 1, Cols: 1}
		list[fmt.Sprint("a product and the prime ", p)] = makeScheme(p, 1, 1, 1, "1 1 1")
	}
	for _, n := range notSizes {
		list[fmt.Sprint(n, " rows")] = impl.Scheme{Prime: 2, Rows: n, Inner: 1, Cols: 1}
		list[fmt.Sprint(n, " inner")] = impl.Scheme{Prime: 3, Rows: 1, Inner: n, Cols: 1}
		list[fmt.Sprint(n, " columns")] = impl.Scheme{Prime: 5, Rows: 1, Inner: 1, Cols: n}
		list[fmt.Sprint("a product and ", n, " rows")] = makeScheme(2, n, 1, 1, "1 1 1")
	}
	for at, text := range []string{
		"0000 1000 1000", "1000 0000 1000", "1000 1000 0000",
		"10001 1000 1000", "1000 10001 1000", "1000 1000 10001",
		"100000001 1000 1000", "1000 100000001 1000", "1000 1000 100000001",
		"3000 1000 1000", "1000 0300 1000", "1000 1000 0004", "0009 1000 1000",
	} {
		list[fmt.Sprint("the product ", text, " at the end")] = makeScheme(3, 2, 2, 2, "1000 1000 1000; "+text)
		list[fmt.Sprint("the product ", text, " at the front", at)] = makeScheme(3, 2, 2, 2, text+"; 1000 1000 1000")
	}
	list["31 products"] = someScheme(&sequence{}, 2, 3, 3, 3, impl.MaxProducts+1)
	list["1000 products"] = someScheme(&sequence{}, 2, 1, 1, 1, 1000)
	return list
}

// schemeCall is a call of a function of chapter 1 with a scheme, and otherwise good arguments for
// sizes 2, 2 and 2, or bad ones, each of which would have an error of its own.
type schemeCall struct {
	name string
	run  func(x impl.Scheme) (any, int64)
}

func goodCalls() []schemeCall {
	unit := func() [][]int64 { return [][]int64{{1, 0}, {0, 1}} }
	q := impl.Product{A: impl.Form{1}, B: impl.Form{1}, C: impl.Form{1}}
	return []schemeCall{
		{"LeftSide", func(x impl.Scheme) (any, int64) { return pack(impl.LeftSide(x, 0, 0, 0)) }},
		{"RightSide", func(x impl.Scheme) (any, int64) { return pack(impl.RightSide(x, 0, 0, 0)) }},
		{"IsCorrect", func(x impl.Scheme) (any, int64) { return pack(impl.IsCorrect(x)) }},
		{"FirstWrong", func(x impl.Scheme) (any, int64) { return pack(impl.FirstWrong(x)) }},
		{"CountWrong", func(x impl.Scheme) (any, int64) { return pack(impl.CountWrong(x)) }},
		{"MakeProduct", func(x impl.Scheme) (any, int64) { return pack(impl.MakeProduct(x, unit(), unit())) }},
		{"RanksOf", func(x impl.Scheme) (any, int64) { return pack(impl.RanksOf(x)) }},
		{"SortScheme", func(x impl.Scheme) (any, int64) { return pack(impl.SortScheme(x)) }},
		{"AddProduct", func(x impl.Scheme) (any, int64) { return pack(impl.AddProduct(x, q)) }},
		{"WithoutProduct", func(x impl.Scheme) (any, int64) { return pack(impl.WithoutProduct(x, 0)) }},
		{"SchemeText", func(x impl.Scheme) (any, int64) { return pack(impl.SchemeText(x)) }},
	}
}

func badCalls() []schemeCall {
	return []schemeCall{
		{"LeftSide", func(x impl.Scheme) (any, int64) { return pack(impl.LeftSide(x, -1, 9, 9)) }},
		{"RightSide", func(x impl.Scheme) (any, int64) { return pack(impl.RightSide(x, 9, -1, 9)) }},
		{"MakeProduct", func(x impl.Scheme) (any, int64) { return pack(impl.MakeProduct(x, nil, [][]int64{nil})) }},
		{"AddProduct", func(x impl.Scheme) (any, int64) { return pack(impl.AddProduct(x, impl.Product{})) }},
		{"WithoutProduct", func(x impl.Scheme) (any, int64) { return pack(impl.WithoutProduct(x, 30)) }},
	}
}

// TestInvalidComesFirst tests the zero values beside ErrInvalid, and that it is told ahead of what
// is wrong with other arguments.
func TestInvalidComesFirst(t *testing.T) {
	for name, x := range notSchemes() {
		for _, call := range append(goodCalls(), badCalls()...) {
			result, code := call.run(x)
			wantError(t, call.name+" of a scheme with "+name, result, code, impl.ErrInvalid)
		}
	}
}

// TestInvalidProductAheadOfLimit tests that a full scheme does not hide a product that is none.
func TestInvalidProductAheadOfLimit(t *testing.T) {
	x := someScheme(&sequence{}, 2, 2, 2, 2, impl.MaxProducts)
	y, code := impl.AddProduct(x, impl.Product{})
	wantError(t, "AddProduct", y, code, impl.ErrInvalid)
}

func TestStandardSchemeRange(t *testing.T) {
	for _, p := range notPrimes {
		x, code := impl.StandardScheme(p, 1, 2, 3)
		wantError(t, fmt.Sprint("StandardScheme of ", p), x, code, impl.ErrRange)
	}
	for _, n := range notSizes {
		for at, size := range [][3]int64{{n, 1, 1}, {1, n, 1}, {1, 1, n}, {n, n, n}} {
			x, code := impl.StandardScheme(primes[at%3], size[0], size[1], size[2])
			wantError(t, fmt.Sprint("StandardScheme of ", size), x, code, impl.ErrRange)
		}
	}
}

func TestPlacesOutOfRange(t *testing.T) {
	eachSize(func(p, n, m, k int64) {
		x := expectStandard(p, n, m, k)
		counts := [3]int64{n * m, m * k, n * k}
		for which, count := range counts {
			for _, outside := range []int64{-1, count, count + 1, 9, 256 + 1, 1 << 32, 1<<63 - 1, -1 << 63} {
				places := [3]int64{}
				places[which] = outside
				left, code := impl.LeftSide(x, places[0], places[1], places[2])
				wantError(t, fmt.Sprint("LeftSide at ", places, " of ", x), left, code, impl.ErrRange)
				right, code := impl.RightSide(x, places[0], places[1], places[2])
				wantError(t, fmt.Sprint("RightSide at ", places, " of ", x), right, code, impl.ErrRange)
			}
		}
		left, code := impl.LeftSide(x, counts[0]-1, counts[1]-1, counts[2]-1)
		wantCode(t, "LeftSide at the last places", code, impl.ErrNone)
		wantSame(t, "LeftSide at the last places", left, int64(1))
		right, code := impl.RightSide(x, counts[0]-1, counts[1]-1, counts[2]-1)
		wantCode(t, "RightSide at the last places", code, impl.ErrNone)
		wantSame(t, "RightSide at the last places", right, int64(1))
	})
}

func TestWithoutProductRange(t *testing.T) {
	for _, products := range []int{0, 1, 7, impl.MaxProducts} {
		x := someScheme(&sequence{}, 5, 2, 1, 2, products)
		for _, i := range []int64{-1, int64(products), int64(products) + 1, 1 << 32, 1<<63 - 1, -1 << 63} {
			y, code := impl.WithoutProduct(x, i)
			wantError(t, fmt.Sprint("WithoutProduct ", i), y, code, impl.ErrRange)
		}
	}
}

// notMatrices returns lists that are no matrix of some rows and columns modulo p.
func notMatrices(p, rows, cols int64) [][][]int64 {
	s := &sequence{}
	list := [][][]int64{nil, {nil}, {{}, {}, {}}, someMatrix(s, p, rows, cols+1), someMatrix(s, p, rows+1, cols), someMatrix(s, p, 4, 4)}
	list = append(list, someMatrix(s, p, rows, cols)[1:], append(someMatrix(s, p, rows, cols), nil))
	for i := range rows {
		shorter, longer := someMatrix(s, p, rows, cols), someMatrix(s, p, rows, cols)
		shorter[i] = shorter[i][1:]
		longer[i] = append(longer[i], 0)
		list = append(list, shorter, longer)
		for j := range cols {
			for _, number := range []int64{-1, p, p + 1, 256, 1<<63 - 1, -1 << 63} {
				wrong := someMatrix(s, p, rows, cols)
				wrong[i][j] = number
				list = append(list, wrong)
			}
		}
	}
	return list
}

func TestMakeProductRange(t *testing.T) {
	s := &sequence{}
	eachSize(func(p, n, m, k int64) {
		x := someScheme(s, p, n, m, k, 3)
		left, right := someMatrix(s, p, n, m), someMatrix(s, p, m, k)
		for _, wrong := range notMatrices(p, n, m) {
			made, code := impl.MakeProduct(x, wrong, right)
			wantError(t, fmt.Sprint("MakeProduct of the left ", wrong, " by ", x), made, code, impl.ErrRange)
		}
		for _, wrong := range notMatrices(p, m, k) {
			made, code := impl.MakeProduct(x, left, wrong)
			wantError(t, fmt.Sprint("MakeProduct of the right ", wrong, " by ", x), made, code, impl.ErrRange)
		}
	})
}

func TestPlainProductPrimes(t *testing.T) {
	for _, p := range notPrimes {
		made, code := impl.PlainProduct(p, [][]int64{{0}}, [][]int64{{0}})
		wantError(t, fmt.Sprint("PlainProduct modulo ", p), made, code, impl.ErrRange)
	}
}

// TestPlainProductShapes tries matrices of 0 to 4 rows and columns with each other.
func TestPlainProductShapes(t *testing.T) {
	s := &sequence{}
	for number := range power(5, 4) {
		n, m, other, k := number%5, number/5%5, number/25%5, number/125
		left, right := someMatrix(s, 5, n, m), someMatrix(s, 5, other, k)
		made, code := impl.PlainProduct(5, left, right)
		what := fmt.Sprint("PlainProduct of ", left, right)
		if min(n, m, other, k) < 1 || max(n, m, other, k) > 3 || m != other {
			wantError(t, what, made, code, impl.ErrRange)
			continue
		}
		wantCode(t, what, code, impl.ErrNone)
		wantSame(t, what, made, expectProduct(5, left, right))
	}
}

func TestPlainProductRange(t *testing.T) {
	for _, p := range primes {
		for _, wrong := range []int64{-1, p, p + 1, 256, 1<<63 - 1, -1 << 63} {
			for place := range 8 {
				lists := [2][][]int64{{{0, 1}, {1, 0}}, {{1, 1}, {0, 1}}}
				lists[place/4][place/2%2][place%2] = wrong
				made, code := impl.PlainProduct(p, lists[0], lists[1])
				wantError(t, fmt.Sprint("PlainProduct of ", lists), made, code, impl.ErrRange)
			}
		}
		for _, ragged := range [][][]int64{{{0, 1}, {1}}, {{0}, {1, 1}}, {{0, 1}, {1, 0, 1}}, {{0, 1}, nil}, {nil, {0, 1}}} {
			made, code := impl.PlainProduct(p, ragged, [][]int64{{0, 1}, {1, 0}})
			wantError(t, fmt.Sprint("PlainProduct of the left ", ragged), made, code, impl.ErrRange)
			made, code = impl.PlainProduct(p, [][]int64{{0, 1}, {1, 0}}, ragged)
			wantError(t, fmt.Sprint("PlainProduct of the right ", ragged), made, code, impl.ErrRange)
		}
	}
}
