package tests

import (
	"slices"

	"loop.example/g01262/impl"
)

// The functions of this file say again what chapter 8 says, in the plainest way.

func seriesOf(t *impl.Twig, which int) *impl.Series {
	return []*impl.Series{&t.A, &t.B, &t.C}[which]
}

// placesOf returns the numbers of places of X, of Y and of Z.
func placesOf(x impl.Border) [3]int64 {
	return [3]int64{x.Rows * x.Inner, x.Inner * x.Cols, x.Rows * x.Cols}
}

func expectBorder(x impl.Border) bool {
	n, m, k := x.Rows, x.Inner, x.Cols
	if !slices.Contains(primes, x.Prime) || min(n, m, k) < 1 || max(n, m, k) > 3 || len(x.Twigs) > 30 {
		return false
	}
	for _, t := range x.Twigs {
		for which, places := range placesOf(x) {
			if !expectSeries(x.Prime, places, *seriesOf(&t, which)) {
				return false
			}
		}
	}
	return true
}

func expectSeries(p, places int64, s impl.Series) bool {
	some := false
	for place := range s {
		for power := range s[place] {
			number := int64(s[place][power])
			if number >= p || number != 0 && int64(place) >= places {
				return false
			}
			some = some || number != 0
		}
	}
	return some
}

// bareScheme returns the scheme without products for the prime and sizes of a border scheme.
func bareScheme(x impl.Border) impl.Scheme {
	return impl.Scheme{Prime: x.Prime, Rows: x.Rows, Inner: x.Inner, Cols: x.Cols}
}

// bareBorder returns the border scheme without twigs for the prime and sizes of a scheme.
func bareBorder(x impl.Scheme) impl.Border {
	return impl.Border{Prime: x.Prime, Rows: x.Rows, Inner: x.Inner, Cols: x.Cols}
}

func expectBorderOf(x impl.Scheme) impl.Border {
	made := bareBorder(x)
	for _, q := range x.Products {
		var t impl.Twig
		for which := range 3 {
			for place, number := range *factor(&q, which) {
				seriesOf(&t, which)[place][0] = number
			}
		}
		made.Twigs = append(made.Twigs, t)
	}
	return made
}

// expectCoefficient adds the products of numbers over all twigs, and all i, j and l.
func expectCoefficient(x impl.Border, a, b, c, d int64) int64 {
	sum := int64(0)
	for _, t := range x.Twigs {
		for i := range int64(4) {
			for j := range int64(4) {
				for l := range int64(4) {
					if i+j+l == d {
						sum += int64(t.A[a][i]) * int64(t.B[b][j]) * int64(t.C[c][l])
					}
				}
			}
		}
	}
	return sum % x.Prime
}

// expectCoefficients returns the coefficients of e^d at all places, in lexicographic order.
func expectCoefficients(x impl.Border, d int64) []int64 {
	var list []int64
	eachEquation(bareScheme(x), func(a, b, c int64) {
		list = append(list, expectCoefficient(x, a, b, c, d))
	})
	return list
}

// isZeros reports whether a list has zeros alone.
func isZeros(list []int64) bool { return howOften(list, 0) == len(list) }

// expectOrder returns the order, or -1 if there is none.
func expectOrder(x impl.Border) int64 {
	for d := range int64(10) {
		if !isZeros(expectCoefficients(x, d)) {
			return d
		}
	}
	return -1
}

// expectRights returns the right sides of all equations, in lexicographic order.
func expectRights(x impl.Border) []int64 {
	var list []int64
	eachEquation(bareScheme(x), func(a, b, c int64) {
		list = append(list, expectRight(bareScheme(x), a, b, c))
	})
	return list
}

// expectBorderCorrect reports for each h in 0..9 whether a border scheme is correct of this order.
func expectBorderCorrect(x impl.Border) [10]bool {
	var correct [10]bool
	for h := range correct {
		coefficients := expectCoefficients(x, int64(h))
		correct[h] = slices.Equal(coefficients, expectRights(x))
		if !isZeros(coefficients) {
			break
		}
	}
	return correct
}

// formAt returns the numbers of a series at a power of e.
func formAt(s impl.Series, power int64) impl.Form {
	var f impl.Form
	for place := range f {
		f[place] = s[place][power]
	}
	return f
}

// expectExact returns the exact scheme, which may have any number of products.
func expectExact(x impl.Border, h int64) impl.Scheme {
	made := bareScheme(x)
	for _, t := range x.Twigs {
		for i := int64(0); i <= h; i++ {
			for j := int64(0); j <= h-i; j++ {
				l := h - i - j
				if max(i, j, l) > 3 {
					continue
				}
				a, b, c := formAt(t.A, i), formAt(t.B, j), formAt(t.C, l)
				if leading(a) != 0 && leading(b) != 0 && leading(c) != 0 {
					made.Products = append(made.Products, impl.Product{A: a, B: b, C: c})
				}
			}
		}
	}
	return made
}

// expectValue puts v in the place of e, number by number.
func expectValue(x impl.Border, v int64) impl.Scheme {
	var list []impl.Product
	for _, t := range x.Twigs {
		var q impl.Product
		for which := range 3 {
			for place, numbers := range *seriesOf(&t, which) {
				sum := int64(0)
				for i, number := range numbers {
					sum += int64(number) * power(v, int64(i))
				}
				factor(&q, which)[place] = byte(sum % x.Prime)
			}
		}
		list = append(list, q)
	}
	return withKept(bareScheme(x), list)
}

// expectRaised returns nothing and false if a number would come to e^4.
func expectRaised(x impl.Border, which int) (impl.Border, bool) {
	x.Twigs = slices.Clone(x.Twigs)
	for at := range x.Twigs {
		s := seriesOf(&x.Twigs[at], which)
		for place, numbers := range s {
			if numbers[3] != 0 {
				return impl.Border{}, false
			}
			s[place] = [4]byte{0, numbers[0], numbers[1], numbers[2]}
		}
	}
	return x, true
}

func expectStretched(x impl.Border, v int64) impl.Border {
	x.Twigs = slices.Clone(x.Twigs)
	for at := range x.Twigs {
		for which := range 3 {
			s := seriesOf(&x.Twigs[at], which)
			for place := range s {
				for i, number := range s[place] {
					s[place][i] = byte(int64(number) * power(v, int64(i)) % x.Prime)
				}
			}
		}
	}
	return x
}

func expectLowest(x impl.Border) [][]int64 {
	var list [][]int64
	for _, t := range x.Twigs {
		var lowest []int64
		for which := range 3 {
			i := int64(0)
			for leading(formAt(*seriesOf(&t, which), i)) == 0 {
				i++
			}
			lowest = append(lowest, i)
		}
		list = append(list, lowest)
	}
	return list
}
