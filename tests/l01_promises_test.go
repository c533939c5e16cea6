package tests

import (
	"fmt"
	"testing"

	"loop.example/g01262/impl"
)

// Promise 1: standard schemes are correct, and schemes come back from their texts.

func TestPromise1StandardSchemesAreCorrect(t *testing.T) {
	eachSize(func(p, n, m, k int64) {
		x := standard(t, p, n, m, k)
		what := fmt.Sprint("standard scheme ", p, n, m, k)
		wantSame(t, what, x, expectStandard(p, n, m, k))
		wantSame(t, what+": IsScheme", impl.IsScheme(x), true)
		correct, code := impl.IsCorrect(x)
		wantCode(t, what+": IsCorrect", code, impl.ErrNone)
		wantSame(t, what+": IsCorrect", correct, true)
		first, code := impl.FirstWrong(x)
		wantError(t, what+": FirstWrong", first, code, impl.ErrNotFound)
		count, code := impl.CountWrong(x)
		wantCode(t, what+": CountWrong", code, impl.ErrNone)
		wantSame(t, what+": CountWrong", count, int64(0))
	})
}

func TestPromise1SchemesComeBack(t *testing.T) {
	s := &sequence{}
	eachSize(func(p, n, m, k int64) {
		wantBack(t, standard(t, p, n, m, k))
		for _, products := range []int{0, 1, 2, 7, 29, 30} {
			wantBack(t, someScheme(s, p, n, m, k, products))
		}
	})
}

// wantBack tests that a scheme has the text that it should have, and comes back from it.
func wantBack(t *testing.T, x impl.Scheme) {
	t.Helper()
	text, code := impl.SchemeText(x)
	wantCode(t, fmt.Sprint("SchemeText of ", x), code, impl.ErrNone)
	wantSame(t, fmt.Sprint("SchemeText of ", x), text, expectText(x))
	y, code := impl.ParseScheme(text)
	wantCode(t, fmt.Sprintf("ParseScheme(%q)", text), code, impl.ErrNone)
	wantSame(t, fmt.Sprintf("ParseScheme(%q)", text), y, x)
}

// Promise 15: correct schemes make the product of all matrices.

func TestPromise15StandardSchemesMakeProducts(t *testing.T) {
	eachSize(func(p, n, m, k int64) {
		wantProducts(t, standard(t, p, n, m, k))
	})
}

func TestPromise15SevenProducts(t *testing.T) {
	for _, p := range primes {
		for _, x := range []impl.Scheme{strassen(p), winograd(p)} {
			correct, code := impl.IsCorrect(x)
			wantCode(t, "IsCorrect", code, impl.ErrNone)
			wantSame(t, fmt.Sprint("IsCorrect of ", x), correct, true)
			wantProducts(t, x)
			sorted, code := impl.SortScheme(x)
			wantCode(t, "SortScheme", code, impl.ErrNone)
			wantProducts(t, sorted)
		}
	}
}

// TestPromise15CorrectAndMade tests both ways: a scheme makes the product of all matrices exactly
// if it is correct.
func TestPromise15CorrectAndMade(t *testing.T) {
	for at := range int64(1 << 8) {
		x := impl.Scheme{Prime: 2, Rows: 1, Inner: 2, Cols: 1}
		for i := range int64(2) {
			bits := at >> (4 * i)
			q := impl.Product{A: impl.Form{byte(bits & 1), byte(bits >> 1 & 1)}, B: impl.Form{byte(bits >> 2 & 1), byte(bits >> 3 & 1)}, C: impl.Form{1}}
			if q.A != (impl.Form{}) && q.B != (impl.Form{}) {
				x.Products = append(x.Products, q)
			}
		}
		correct, code := impl.IsCorrect(x)
		wantCode(t, "IsCorrect", code, impl.ErrNone)
		wantSame(t, fmt.Sprint("IsCorrect of ", x), correct, makesAllProducts(t, x))
	}
}

func makesAllProducts(t *testing.T, x impl.Scheme) bool {
	t.Helper()
	all := true
	eachPair(x, func(left, right [][]int64) {
		made, code := impl.MakeProduct(x, left, right)
		wantCode(t, "MakeProduct", code, impl.ErrNone)
		all = all && fmt.Sprint(made) == fmt.Sprint(expectProduct(x.Prime, left, right))
	})
	return all
}

// wantProducts tests that a scheme makes the product of all matrices, or of many where there are
// too many of them, and that this product is what PlainProduct makes.
func wantProducts(t *testing.T, x impl.Scheme) {
	t.Helper()
	eachPair(x, func(left, right [][]int64) {
		what := fmt.Sprintf("product of %v and %v by %v", left, right, x)
		want := expectProduct(x.Prime, left, right)
		made, code := impl.MakeProduct(x, left, right)
		wantCode(t, what, code, impl.ErrNone)
		wantSame(t, what, made, want)
		plain, code := impl.PlainProduct(x.Prime, left, right)
		wantCode(t, what, code, impl.ErrNone)
		wantSame(t, what, plain, want)
	})
}

// eachPair calls do for all pairs of matrices for x, or for the first, the last and many others.
func eachPair(x impl.Scheme, do func(left, right [][]int64)) {
	const most = 1000
	p, n, m, k := x.Prime, x.Rows, x.Inner, x.Cols
	all, lefts := power(p, n*m+m*k), power(p, n*m)
	step := max(1, all/most)
	for at := int64(0); at < all; at += step {
		number := min(at+at/step%step, all-1)
		do(matrixOf(number%lefts, p, n, m), matrixOf(number/lefts, p, m, k))
	}
	do(matrixOf(lefts-1, p, n, m), matrixOf(all/lefts-1, p, m, k))
}
