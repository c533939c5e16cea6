package tests

import (
	"maps"
	"slices"

	"loop.example/g01262/impl"
)

// The functions of this file say again what chapter 4 says, with matrices in the place of forms, and
// find inverses by trying all columns.

// transposed returns the transposed matrix of one that has a row.
func transposed(rows [][]int64) [][]int64 {
	list := zeros(int64(len(rows[0])), int64(len(rows)))
	for i, row := range rows {
		for j, number := range row {
			list[j][i] = number
		}
	}
	return list
}

func unit(n int64) [][]int64 {
	list := zeros(n, n)
	for i := range list {
		list[i][i] = 1
	}
	return list
}

// chain returns the product of matrices, in order.
func chain(p int64, first [][]int64, others ...[][]int64) [][]int64 {
	for _, other := range others {
		first = expectProduct(p, first, other)
	}
	return first
}

func sameRows(left, right [][]int64) bool { return slices.EqualFunc(left, right, slices.Equal) }

// determinant returns that of a square, as a whole number.
func determinant(square [][]int64) int64 {
	if len(square) == 0 {
		return 1
	}
	sum, sign := int64(0), int64(1)
	for at, number := range square[0] {
		var rest [][]int64
		for _, row := range square[1:] {
			rest = append(rest, slices.Delete(slices.Clone(row), at, at+1))
		}
		sum += sign * number * determinant(rest)
		sign = -sign
	}
	return sum
}

// expectInverse returns the square whose columns the given one makes those of the unit square, or nil.
func expectInverse(p int64, square [][]int64) [][]int64 {
	n := int64(len(square))
	var columns [][]int64
	for _, want := range unit(n) {
		at := slices.IndexFunc(allColumns(p, n), func(column []int64) bool {
			return sameRows(transposed(expectProduct(p, square, transposed([][]int64{column}))), [][]int64{want})
		})
		if at < 0 {
			return nil
		}
		columns = append(columns, allColumns(p, n)[at])
	}
	return transposed(columns)
}

func allColumns(p, n int64) [][]int64 {
	var list [][]int64
	for number := range power(p, n) {
		list = append(list, matrixOf(number, p, 1, n)[0])
	}
	return list
}

// triple has the squares P, Q and R of a change.
type triple [3][][]int64

func unitTriple(x impl.Scheme) triple { return triple{unit(x.Rows), unit(x.Inner), unit(x.Cols)} }

func inverses(p int64, squares triple) triple {
	for i, square := range squares {
		squares[i] = expectInverse(p, square)
	}
	return squares
}

func someInvertible(s *sequence, p, n int64) [][]int64 {
	for {
		if square := someMatrix(s, p, n, n); determinant(square)%p != 0 {
			return square
		}
	}
}

func someTriple(s *sequence, x impl.Scheme) triple {
	p := x.Prime
	return triple{someInvertible(s, p, x.Rows), someInvertible(s, p, x.Inner), someInvertible(s, p, x.Cols)}
}

func allInvertible(p, n int64) [][][]int64 {
	var list [][][]int64
	for number := range power(p, n*n) {
		if square := matrixOf(number, p, n, n); determinant(square)%p != 0 {
			list = append(list, square)
		}
	}
	return list
}

func allTriples(x impl.Scheme) []triple {
	var list []triple
	for _, first := range allInvertible(x.Prime, x.Rows) {
		for _, second := range allInvertible(x.Prime, x.Inner) {
			for _, third := range allInvertible(x.Prime, x.Cols) {
				list = append(list, triple{first, second, third})
			}
		}
	}
	return list
}

func expectTurned(x impl.Scheme) impl.Scheme {
	return impl.Scheme{Prime: x.Prime, Rows: x.Inner, Inner: x.Cols, Cols: x.Rows, Products: changed(x, func(t tables) tables {
		return tables{t.b, transposed(t.c), transposed(t.a)}
	})}
}

func expectTransposed(x impl.Scheme) impl.Scheme {
	return impl.Scheme{Prime: x.Prime, Rows: x.Cols, Inner: x.Inner, Cols: x.Rows, Products: changed(x, func(t tables) tables {
		return tables{transposed(t.b), transposed(t.a), transposed(t.c)}
	})}
}

func expectChanged(x impl.Scheme, squares triple) impl.Scheme {
	p, back := x.Prime, inverses(x.Prime, squares)
	x.Products = changed(x, func(t tables) tables {
		return tables{
			chain(p, transposed(squares[0]), t.a, transposed(back[1])),
			chain(p, transposed(squares[1]), t.b, transposed(back[2])),
			chain(p, back[0], t.c, squares[2]),
		}
	})
	return x
}

// divided returns f divided by a number other than 0.
func divided(p int64, f impl.Form, number byte) impl.Form {
	for quotient := range p {
		if quotient*int64(number)%p == 1 {
			return times(p, quotient, f)
		}
	}
	panic("a number without an inverse")
}

func expectScaled(x impl.Scheme) impl.Scheme {
	p, list := x.Prime, slices.Clone(x.Products)
	for i, q := range list {
		a, b := leading(q.A), leading(q.B)
		list[i] = impl.Product{A: divided(p, q.A, a), B: divided(p, q.B, b), C: times(p, int64(a), times(p, int64(b), q.C))}
	}
	x.Products = list
	return expectSorted(x)
}

// ranksOf returns the ranks of the products of x, in their order.
func ranksOf(x impl.Scheme) [][]int64 {
	var list [][]int64
	for _, q := range x.Products {
		list = append(list, []int64{
			expectRank(x.Prime, x.Rows, x.Inner, q.A),
			expectRank(x.Prime, x.Inner, x.Cols, q.B),
			expectRank(x.Prime, x.Rows, x.Cols, q.C),
		})
	}
	return list
}

// expectProfile orders lists of three ranks, which are less than 10, by the numbers they are written as.
func expectProfile(x impl.Scheme) [][]int64 {
	list := ranksOf(x)
	slices.SortFunc(list, func(left, right []int64) int {
		return int(100*(left[0]-right[0]) + 10*(left[1]-right[1]) + left[2] - right[2])
	})
	return list
}

// sameProducts reports whether two schemes have the same products, each equally often.
func sameProducts(x, y impl.Scheme) bool {
	counts := func(x impl.Scheme) map[impl.Product]int {
		counted := map[impl.Product]int{}
		for _, q := range x.Products {
			counted[q]++
		}
		return counted
	}
	return maps.Equal(counts(x), counts(y))
}

// expectLeading returns how many changes of x, which is small, have the products of y.
func expectLeading(x, y impl.Scheme) int64 {
	count := int64(0)
	for _, squares := range allTriples(x) {
		if sameProducts(expectChanged(x, squares), y) {
			count++
		}
	}
	return count
}
