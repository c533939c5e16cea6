package tests

import (
	"fmt"
	"testing"

	"loop.example/g01262/impl"
)

// roomy returns a copy of x whose list has room behind it, filled with a product of its own, and the
// whole list with this room.
func roomy(x impl.Scheme) (impl.Scheme, []impl.Product) {
	mark := impl.Product{A: impl.Form{77}, B: impl.Form{88}, C: impl.Form{99}}
	whole := append(append([]impl.Product{}, x.Products...), mark, mark, mark)
	x.Products = whole[:len(x.Products)]
	return x, whole
}

func TestSchemesAreNotChanged(t *testing.T) {
	s := &sequence{}
	for _, products := range []int{1, 7, 29, impl.MaxProducts} {
		for _, call := range append(goodCalls(), badCalls()...) {
			x, whole := roomy(someScheme(s, 2, 2, 2, 2, products))
			before := fmt.Sprint(x, whole)
			call.run(x)
			wantSame(t, call.name+": its argument", fmt.Sprint(x, whole), before)
		}
	}
}

func TestSchemesAreNotShared(t *testing.T) {
	s := &sequence{}
	for _, products := range []int{0, 1, 7, 29} {
		x, whole := roomy(someScheme(s, 2, 2, 2, 2, products))
		before := fmt.Sprint(x, whole)
		for name, y := range map[string]impl.Scheme{
			"SortScheme":     first(impl.SortScheme(x)),
			"AddProduct":     first(impl.AddProduct(x, someProduct(s, 2, 2, 2, 2))),
			"WithoutProduct": first(impl.WithoutProduct(x, 0)),
			"the end":        first(impl.WithoutProduct(x, int64(products)-1)),
		} {
			overwrite(y.Products)
			wantSame(t, name+": the argument after its result was changed", fmt.Sprint(x, whole), before)
		}
	}
}

func first[T any](result T, code int64) T { return result }

func overwrite[T any](list []T) {
	var zero T
	list = list[:cap(list)]
	for at := range list {
		list[at] = zero
	}
}

// TestResultsAreNew changes the results of calls, and calls again.
func TestResultsAreNew(t *testing.T) {
	x := strassen(2)
	calls := map[string]func() string{
		"StandardScheme": func() string {
			return spoil(first(impl.StandardScheme(2, 2, 2, 2)).Products)
		},
		"ParseScheme": func() string {
			return spoil(first(impl.ParseScheme("2:1x1x1;1*1*1+1*1*1")).Products)
		},
		"FirstWrong": func() string {
			return spoil(first(impl.FirstWrong(first(impl.WithoutProduct(x, 6)))))
		},
		"SortScheme": func() string { return spoil(first(impl.SortScheme(x)).Products) },
		"RanksOf":    func() string { return spoil(first(impl.RanksOf(x))) },
	}
	for name, call := range calls {
		wantSame(t, name+" again", call(), call())
	}
}

// spoil returns a list as a text, and overwrites it.
func spoil[T any](list []T) string {
	text := fmt.Sprint(list)
	overwrite(list)
	return text
}

// roomyMatrix returns a copy of a matrix whose rows and whose list of rows have room behind them,
// and a function that tells all of it.
func roomyMatrix(rows [][]int64) ([][]int64, func() string) {
	var wholes [][]int64
	for _, row := range rows {
		wholes = append(wholes, append(append([]int64{}, row...), 55, 66))
	}
	list := append([][]int64{}, wholes...)
	list = append(list, []int64{44})
	for i, row := range rows {
		list[i] = wholes[i][:len(row)]
	}
	return list[:len(rows)], func() string { return fmt.Sprint(list, wholes) }
}

func TestMatricesAreNotChanged(t *testing.T) {
	s := &sequence{}
	eachSize(func(p, n, m, k int64) {
		x := someScheme(s, p, n, m, k, 4)
		left, tellLeft := roomyMatrix(someMatrix(s, p, n, m))
		right, tellRight := roomyMatrix(someMatrix(s, p, m, k))
		before := tellLeft() + tellRight()
		for name, made := range map[string][][]int64{
			"MakeProduct":  first(impl.MakeProduct(x, left, right)),
			"PlainProduct": first(impl.PlainProduct(p, left, right)),
		} {
			wantSame(t, name+": its arguments", tellLeft()+tellRight(), before)
			wantRowsApart(t, name, made)
			wantSame(t, name+": its arguments after its result was changed", tellLeft()+tellRight(), before)
		}
	})
}

func TestRowsOfRanksAreApart(t *testing.T) {
	ranks, code := impl.RanksOf(strassen(3))
	wantCode(t, "RanksOf", code, impl.ErrNone)
	wantRowsApart(t, "RanksOf", ranks)
}

// wantRowsApart fills each row, and the room behind it, with a number of its own, and looks whether
// all rows keep theirs.
func wantRowsApart(t *testing.T, what string, rows [][]int64) {
	t.Helper()
	for i, row := range rows {
		row = row[:cap(row)]
		for j := range row {
			row[j] = int64(1000 + i)
		}
	}
	for i, row := range rows {
		for _, number := range row[:cap(row)] {
			wantSame(t, what+": a row after others were changed", number, int64(1000+i))
		}
	}
}

// TestCallsAgain tests that no call depends on those before it.
func TestCallsAgain(t *testing.T) {
	s := &sequence{}
	eachSize(func(p, n, m, k int64) {
		x := someScheme(s, p, n, m, k, 5)
		for _, call := range goodCalls() {
			result, code := call.run(x)
			impl.RanksOf(someScheme(s, p, k, n, m, 5))
			again, codeAgain := call.run(x)
			wantSame(t, call.name+" again", again, result)
			wantCode(t, call.name+" again", codeAgain, code)
		}
	})
}
