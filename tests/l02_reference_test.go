package tests

import "loop.example/g01262/impl"

// The functions of this file say again what chapter 2 says, with matrices in the place of forms.

// table returns the matrix of the numbers of a form.
func table(f impl.Form, rows, cols int64) [][]int64 {
	list := zeros(rows, cols)
	for i := range list {
		for j := range list[i] {
			list[i][j] = int64(f[int64(i)*cols+int64(j)])
		}
	}
	return list
}

func formOf(rows [][]int64) impl.Form {
	var f impl.Form
	at := 0
	for _, row := range rows {
		for _, number := range row {
			f[at] = byte(number)
			at++
		}
	}
	return f
}

func zeros(rows, cols int64) [][]int64 {
	list := make([][]int64, rows)
	for i := range list {
		list[i] = make([]int64, cols)
	}
	return list
}

func above(upper, lower [][]int64) [][]int64 {
	return append(append([][]int64{}, upper...), lower...)
}

func beside(left, right [][]int64) [][]int64 {
	list := make([][]int64, len(left))
	for i := range list {
		list[i] = append(append([]int64{}, left[i]...), right[i]...)
	}
	return list
}

// tables are the three matrices of the forms of a product.
type tables struct{ a, b, c [][]int64 }

func tablesOf(x impl.Scheme, q impl.Product) tables {
	return tables{table(q.A, x.Rows, x.Inner), table(q.B, x.Inner, x.Cols), table(q.C, x.Rows, x.Cols)}
}

func (t tables) product() impl.Product {
	return impl.Product{A: formOf(t.a), B: formOf(t.b), C: formOf(t.c)}
}

// changed returns the products of x with their matrices changed.
func changed(x impl.Scheme, change func(tables) tables) []impl.Product {
	var list []impl.Product
	for _, q := range x.Products {
		list = append(list, change(tablesOf(x, q)).product())
	}
	return list
}

func expectJoinRows(x, y impl.Scheme) impl.Scheme {
	firsts := changed(x, func(t tables) tables {
		return tables{above(t.a, zeros(y.Rows, x.Inner)), t.b, above(t.c, zeros(y.Rows, x.Cols))}
	})
	seconds := changed(y, func(t tables) tables {
		return tables{above(zeros(x.Rows, x.Inner), t.a), t.b, above(zeros(x.Rows, x.Cols), t.c)}
	})
	x.Rows += y.Rows
	x.Products = append(firsts, seconds...)
	return x
}

func expectJoinInner(x, y impl.Scheme) impl.Scheme {
	firsts := changed(x, func(t tables) tables {
		return tables{beside(t.a, zeros(x.Rows, y.Inner)), above(t.b, zeros(y.Inner, x.Cols)), t.c}
	})
	seconds := changed(y, func(t tables) tables {
		return tables{beside(zeros(x.Rows, x.Inner), t.a), above(zeros(x.Inner, x.Cols), t.b), t.c}
	})
	x.Inner += y.Inner
	x.Products = append(firsts, seconds...)
	return x
}

func expectJoinCols(x, y impl.Scheme) impl.Scheme {
	firsts := changed(x, func(t tables) tables {
		return tables{t.a, beside(t.b, zeros(x.Inner, y.Cols)), beside(t.c, zeros(x.Rows, y.Cols))}
	})
	seconds := changed(y, func(t tables) tables {
		return tables{t.a, beside(zeros(x.Inner, x.Cols), t.b), beside(zeros(x.Rows, x.Cols), t.c)}
	})
	x.Cols += y.Cols
	x.Products = append(firsts, seconds...)
	return x
}

// blocks returns the matrix in which each entry of left has become a block, right times this entry.
func blocks(p int64, left, right [][]int64) [][]int64 {
	var list [][]int64
	for _, row := range left {
		for _, inner := range right {
			var line []int64
			for _, number := range row {
				for _, factor := range inner {
					line = append(line, number*factor%p)
				}
			}
			list = append(list, line)
		}
	}
	return list
}

func expectMultiplied(x, y impl.Scheme) impl.Scheme {
	p := x.Prime
	made := impl.Scheme{Prime: p, Rows: x.Rows * y.Rows, Inner: x.Inner * y.Inner, Cols: x.Cols * y.Cols}
	for _, q := range x.Products {
		t := tablesOf(x, q)
		made.Products = append(made.Products, changed(y, func(u tables) tables {
			return tables{blocks(p, t.a, u.a), blocks(p, t.b, u.b), blocks(p, t.c, u.c)}
		})...)
	}
	return made
}

// corner returns the upper left part of a matrix.
func corner(rows [][]int64, count, cols int64) [][]int64 {
	var list [][]int64
	for _, row := range rows[:count] {
		list = append(list, row[:cols])
	}
	return list
}

func expectRestricted(x impl.Scheme, n, m, k int64) impl.Scheme {
	made := impl.Scheme{Prime: x.Prime, Rows: n, Inner: m, Cols: k}
	for _, q := range changed(x, func(t tables) tables {
		return tables{corner(t.a, n, m), corner(t.b, m, k), corner(t.c, n, k)}
	}) {
		if q.A != (impl.Form{}) && q.B != (impl.Form{}) && q.C != (impl.Form{}) {
			made.Products = append(made.Products, q)
		}
	}
	return made
}

// expectJoinNumber returns the join number: dividing spares products where no size is 1 alone.
func expectJoinNumber(n, m, k int64) int64 {
	if min(n, m, k) == 1 {
		return n * m * k
	}
	return map[int64]int64{6: 7, 7: 11, 8: 17, 9: 26}[n+m+k]
}

// expectJoinScheme returns the join scheme, from the divisions that were found by hand.
func expectJoinScheme(p, n, m, k int64) impl.Scheme {
	switch [3]int64{n, m, k} {
	case [3]int64{2, 2, 2}:
		return strassen(p)
	case [3]int64{2, 2, 3}:
		return expectJoinCols(expectStandard(p, 2, 2, 1), strassen(p))
	case [3]int64{2, 3, 2}:
		return expectJoinInner(expectStandard(p, 2, 1, 2), strassen(p))
	case [3]int64{2, 3, 3}:
		return expectJoinInner(expectStandard(p, 2, 1, 3), expectJoinScheme(p, 2, 2, 3))
	case [3]int64{3, 2, 2}, [3]int64{3, 2, 3}, [3]int64{3, 3, 2}, [3]int64{3, 3, 3}:
		return expectJoinRows(expectStandard(p, 1, m, k), expectJoinScheme(p, 2, m, k))
	}
	return expectStandard(p, n, m, k)
}
