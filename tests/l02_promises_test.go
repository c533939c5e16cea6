package tests

import (
	"fmt"
	"testing"

	"loop.example/g01262/impl"
)

// Promise 2: known schemes are correct, and joins and products of correct schemes are correct.
// Promise 12, of chapter 2: join schemes have as many products as the join number.

// wantCorrect tests that a scheme is one, and that all of its equations hold.
func wantCorrect(t *testing.T, what string, x impl.Scheme) {
	t.Helper()
	wantSame(t, what+": IsScheme", impl.IsScheme(x), true)
	correct, code := impl.IsCorrect(x)
	wantCode(t, what+": IsCorrect", code, impl.ErrNone)
	wantSame(t, what+": IsCorrect", correct, true)
	wantSame(t, what+": equations that do not hold", len(expectWrong(x)), 0)
}

// correctSchemes returns correct schemes for a prime and sizes, which may differ in their products.
func correctSchemes(p, n, m, k int64) []impl.Scheme {
	list := []impl.Scheme{expectStandard(p, n, m, k)}
	if min(n, m, k) > 1 {
		list = append(list, expectJoinScheme(p, n, m, k))
	}
	if n == 2 && m == 2 && k == 2 {
		list = append(list, winograd(p))
	}
	return list
}

func TestPromise2KnownSchemesAreCorrect(t *testing.T) {
	for _, p := range primes {
		for name, want := range map[string]impl.Scheme{
			"strassen": strassen(p), "winograd": winograd(p), "plain": expectStandard(p, 2, 2, 2),
		} {
			what := fmt.Sprint("KnownScheme ", name, " of ", p)
			x, code := impl.KnownScheme(name, p)
			wantCode(t, what, code, impl.ErrNone)
			wantSame(t, what, x, want)
			wantCorrect(t, what, x)
			wantProducts(t, x)
		}
	}
}

func TestPromise2SevenProducts(t *testing.T) {
	for _, p := range primes {
		for name, count := range map[string]int{"strassen": 7, "winograd": 7, "plain": 8} {
			x, code := impl.KnownScheme(name, p)
			wantCode(t, "KnownScheme", code, impl.ErrNone)
			wantSame(t, fmt.Sprint("products of ", name), len(x.Products), count)
			wantSame(t, fmt.Sprint("sizes of ", name), [4]int64{x.Prime, x.Rows, x.Inner, x.Cols}, [4]int64{p, 2, 2, 2})
		}
	}
}

// joinWays are the joins, with the position of the size that they add.
var joinWays = []struct {
	name   string
	at     int
	join   func(x, y impl.Scheme) (impl.Scheme, int64)
	expect func(x, y impl.Scheme) impl.Scheme
}{
	{"JoinRows", 0, impl.JoinRows, expectJoinRows},
	{"JoinInner", 1, impl.JoinInner, expectJoinInner},
	{"JoinCols", 2, impl.JoinCols, expectJoinCols},
}

func TestPromise2JoinsAreCorrect(t *testing.T) {
	for _, way := range joinWays {
		eachSize(func(p, n, m, k int64) {
			size := [3]int64{n, m, k}
			for part := int64(1); part < size[way.at]; part++ {
				first, second := size, size
				first[way.at], second[way.at] = part, size[way.at]-part
				for _, x := range correctSchemes(p, first[0], first[1], first[2]) {
					for _, y := range correctSchemes(p, second[0], second[1], second[2]) {
						what := fmt.Sprint(way.name, " of ", first, " and ", second, " for ", p)
						joined, code := way.join(x, y)
						wantCode(t, what, code, impl.ErrNone)
						wantSame(t, what+": sizes", [4]int64{joined.Prime, joined.Rows, joined.Inner, joined.Cols}, [4]int64{p, n, m, k})
						wantSame(t, what+": products", len(joined.Products), len(x.Products)+len(y.Products))
						wantCorrect(t, what, joined)
					}
				}
			}
		})
	}
}

func TestPromise2ProductsAreCorrect(t *testing.T) {
	eachSize(func(p, n, m, k int64) {
		for first := range int64(27) {
			rows, inner, cols := first/9+1, first/3%3+1, first%3+1
			if n%rows != 0 || m%inner != 0 || k%cols != 0 {
				continue
			}
			for _, x := range correctSchemes(p, rows, inner, cols) {
				for _, y := range correctSchemes(p, n/rows, m/inner, k/cols) {
					what := fmt.Sprint("MultiplySchemes of ", x, " and ", y)
					made, code := impl.MultiplySchemes(x, y)
					wantCode(t, what, code, impl.ErrNone)
					wantSame(t, what+": sizes", [4]int64{made.Prime, made.Rows, made.Inner, made.Cols}, [4]int64{p, n, m, k})
					wantSame(t, what+": products", len(made.Products), len(x.Products)*len(y.Products))
					wantCorrect(t, what, made)
				}
			}
		}
	})
}

func TestPromise2RestrictionsAreCorrect(t *testing.T) {
	eachSize(func(p, n, m, k int64) {
		for _, x := range correctSchemes(p, n, m, k) {
			for at := range n * m * k {
				rows, inner, cols := at/(m*k)+1, at/k%m+1, at%k+1
				what := fmt.Sprint("RestrictScheme to ", rows, inner, cols, " of ", x)
				made, code := impl.RestrictScheme(x, rows, inner, cols)
				wantCode(t, what, code, impl.ErrNone)
				wantSame(t, what+": sizes", [4]int64{made.Prime, made.Rows, made.Inner, made.Cols}, [4]int64{p, rows, inner, cols})
				wantCorrect(t, what, made)
			}
		}
	})
}

func TestPromise12JoinSchemesHaveTheirNumber(t *testing.T) {
	eachSize(func(p, n, m, k int64) {
		what := fmt.Sprint("of ", p, n, m, k)
		number, code := impl.JoinNumber(n, m, k)
		wantCode(t, "JoinNumber "+what, code, impl.ErrNone)
		wantSame(t, "JoinNumber "+what, number, expectJoinNumber(n, m, k))
		x, code := impl.JoinScheme(p, n, m, k)
		wantCode(t, "JoinScheme "+what, code, impl.ErrNone)
		wantSame(t, "JoinScheme "+what, x, expectJoinScheme(p, n, m, k))
		wantSame(t, "products of JoinScheme "+what, int64(len(x.Products)), number)
		wantCorrect(t, "JoinScheme "+what, x)
		wantProducts(t, x)
	})
}
