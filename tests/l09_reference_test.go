package tests

import (
	"slices"

	"loop.example/g01262/impl"
)

// The functions of this file say again what chapter 9 says, in the plainest way.

func sidesOfMethod(m impl.Method) [3]int64 { return [3]int64{m.I, m.J, m.K} }

// bareMethod returns the method without products for a prime and sides.
func bareMethod(p int64, sides [3]int64) impl.Method {
	return impl.Method{Prime: p, I: sides[0], J: sides[1], K: sides[2]}
}

func expectMethod(m impl.Method) bool {
	sides := sidesOfMethod(m)
	if !slices.Contains(primes, m.Prime) || len(m.Products) > 30 {
		return false
	}
	for _, side := range sides {
		if side < 1 || side > 9 {
			return false
		}
	}
	for _, q := range m.Products {
		for which, side := range sides {
			if !expectForm(m.Prime, side, *factor(&q, which)) {
				return false
			}
		}
	}
	return true
}

// expectMethodTensor adds up all products at each place.
func expectMethodTensor(m impl.Method) impl.Tensor {
	return makeTensor(m.Prime, sidesOfMethod(m), func(i, j, k int64) int64 {
		sum := int64(0)
		for _, q := range m.Products {
			sum += int64(q.A[i]) * int64(q.B[j]) * int64(q.C[k])
		}
		return sum
	})
}

// formTimes adds up the numbers of a form times those of a list.
func formTimes(f impl.Form, list []int64) int64 {
	sum := int64(0)
	for at, number := range list {
		sum += int64(f[at]) * number
	}
	return sum
}

// expectMadeList finds what a method makes, number by number.
func expectMadeList(m impl.Method, u, v []int64) []int64 {
	var made []int64
	for k := range m.K {
		sum := int64(0)
		for _, q := range m.Products {
			sum += int64(q.C[k]) * formTimes(q.A, u) * formTimes(q.B, v)
		}
		made = append(made, sum%m.Prime)
	}
	return made
}

// expectTensorValue finds what a tensor makes, number by number.
func expectTensorValue(t impl.Tensor, u, v []int64) []int64 {
	made := make([]int64, t.K)
	eachPlace(sidesOf(t), func(i, j, k int64) { made[k] += expectAt(t, i, j, k) * u[i] * v[j] })
	for k := range made {
		made[k] %= t.Prime
	}
	return made
}

// expectPlainMethod returns nothing and false if there would be too many products.
func expectPlainMethod(t impl.Tensor) (impl.Method, bool) {
	m := bareMethod(t.Prime, sidesOf(t))
	eachPlace(sidesOf(t), func(i, j, k int64) {
		var q impl.Product
		q.A[i], q.B[j], q.C[k] = byte(expectAt(t, i, j, k)), 1, 1
		if q.A[i] != 0 {
			m.Products = append(m.Products, q)
		}
	})
	if len(m.Products) > impl.MaxProducts {
		return impl.Method{}, false
	}
	return m, true
}

// polynomialProduct multiplies polynomials, lists of the numbers of x^0, x^1 and so on.
func polynomialProduct(p int64, u, v []int64) []int64 {
	made := make([]int64, len(u)+len(v)-1)
	for i := range u {
		for j := range v {
			made[i+j] = (made[i+j] + u[i]*v[j]) % p
		}
	}
	return made
}

// powerOfX returns x^e.
func powerOfX(e int64) []int64 { return append(make([]int64, e), 1) }

// longDivision returns the rest of a polynomial by another one whose last number is 1: as long as the rest is
// long enough, its last number times the divisor is taken away, moved up to it.
func longDivision(p int64, polynomial, divisor []int64) []int64 {
	rest := slices.Clone(polynomial)
	for len(rest) >= len(divisor) {
		last, from := rest[len(rest)-1], len(rest)-len(divisor)
		for at, number := range divisor {
			rest[from+at] = ((rest[from+at]-last*number)%p + p) % p
		}
		rest = rest[:len(rest)-1]
	}
	return rest
}

// divisorOf returns x^d + c(d - 1) x^(d - 1) + .. + c(0) for a list.
func divisorOf(list []int64) []int64 { return append(slices.Clone(list), 1) }

// expectRest has the coefficients of rests, which are 0 where a rest is shorter.
func expectRest(p int64, list []int64) impl.Tensor {
	d := int64(len(list))
	return makeTensor(p, [3]int64{d, d, d}, func(i, j, k int64) int64 {
		return append(longDivision(p, powerOfX(i+j), divisorOf(list)), 0, 0, 0, 0)[k]
	})
}

// triangle returns the matrix of n rows with a list on and above the diagonal, row by row, and zeros below.
func triangle(n int64, list []int64) [][]int64 {
	rows, at := zeros(n, n), 0
	for i := range n {
		for j := i; j < n; j++ {
			rows[i][j] = list[at]
			at++
		}
	}
	return rows
}

// aboveDiagonal returns the numbers on and above the diagonal, row by row.
func aboveDiagonal(rows [][]int64) []int64 {
	var list []int64
	for i, row := range rows {
		list = append(list, row[i:]...)
	}
	return list
}

// unitList returns the list with 1 at a place, and 0 elsewhere.
func unitList(length, at int64) []int64 {
	list := make([]int64, length)
	list[at] = 1
	return list
}

// expectTriangular multiplies the matrices with a single 1 on or above the diagonal.
func expectTriangular(p, n int64) impl.Tensor {
	side := n * (n + 1) / 2
	return makeTensor(p, [3]int64{side, side, side}, func(i, j, k int64) int64 {
		made := expectProduct(p, triangle(n, unitList(side, i)), triangle(n, unitList(side, j)))
		return aboveDiagonal(made)[k]
	})
}

// expectPolynomial multiplies powers of x.
func expectPolynomial(p, n, m int64) impl.Tensor {
	return makeTensor(p, [3]int64{n, m, n + m - 1}, func(i, j, k int64) int64 {
		return polynomialProduct(p, unitList(n, i), unitList(m, j))[k]
	})
}

// karatsuba returns the three products as they are written, m standing for p - 1.
func karatsuba(p int64) impl.Method {
	m := bareMethod(p, [3]int64{2, 2, 3})
	m.Products = makeScheme(p, 2, 2, 3, "10 10 1m0; 01 01 0m1; 11 11 010").Products
	return m
}

func expectSchemeMethod(x impl.Scheme) impl.Method {
	m := bareMethod(x.Prime, [3]int64{x.Rows * x.Inner, x.Inner * x.Cols, x.Rows * x.Cols})
	m.Products = slices.Clone(x.Products)
	return m
}

// kroneckerForm goes through the places of both forms.
func kroneckerForm(p int64, f impl.Form, length int64, g impl.Form, other int64) impl.Form {
	var made impl.Form
	for i := range length {
		for j := range other {
			made[i*other+j] = byte(int64(f[i]) * int64(g[j]) % p)
		}
	}
	return made
}

// expectMethodKronecker returns nothing and false if a side or the list of products would be too long.
func expectMethodKronecker(m, n impl.Method) (impl.Method, bool) {
	first, second := sidesOfMethod(m), sidesOfMethod(n)
	made := bareMethod(m.Prime, [3]int64{first[0] * second[0], first[1] * second[1], first[2] * second[2]})
	if max(made.I, made.J, made.K) > impl.MaxSide || len(m.Products)*len(n.Products) > impl.MaxProducts {
		return impl.Method{}, false
	}
	for _, q := range m.Products {
		for _, r := range n.Products {
			var both impl.Product
			for which := range 3 {
				*factor(&both, which) = kroneckerForm(m.Prime, *factor(&q, which), first[which], *factor(&r, which), second[which])
			}
			made.Products = append(made.Products, both)
		}
	}
	return made, true
}

func expectMethodTurn(m impl.Method) impl.Method {
	made := bareMethod(m.Prime, [3]int64{m.J, m.K, m.I})
	for _, q := range m.Products {
		made.Products = append(made.Products, impl.Product{A: q.B, B: q.C, C: q.A})
	}
	return made
}

func expectBound(t impl.Tensor) int64 {
	ranks := expectRanks(t)
	return max(ranks[0], ranks[1], ranks[2])
}

func sameMethod(m, n impl.Method) bool {
	return m.Prime == n.Prime && sidesOfMethod(m) == sidesOfMethod(n) && slices.Equal(m.Products, n.Products)
}
