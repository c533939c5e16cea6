package tests

import (
	"slices"

	"loop.example/g01262/impl"
)

// The functions of this file say again what chapter 3 says, and find multiples by trying all of them.

// together returns f and t times g added; t is greater than -p.
func together(p int64, f impl.Form, t int64, g impl.Form) impl.Form {
	for at := range f {
		f[at] = byte((int64(f[at]) + (t+p)*int64(g[at])) % p)
	}
	return f
}

func times(p, t int64, f impl.Form) impl.Form { return together(p, impl.Form{}, t, f) }

// leading returns the first number other than 0.
func leading(f impl.Form) byte {
	for _, number := range f {
		if number != 0 {
			return number
		}
	}
	return 0
}

func expectNormalProduct(p int64, q impl.Product) impl.Product {
	for numbers := range p * p * p {
		a, b, c := numbers%p, numbers/p%p, numbers/(p*p)
		r := impl.Product{A: times(p, a, q.A), B: times(p, b, q.B), C: times(p, c, q.C)}
		if a*b*c%p == 1 && leading(r.A) == 1 && leading(r.B) == 1 {
			return r
		}
	}
	panic("a product with a form that is 0 everywhere")
}

func expectNormal(x impl.Scheme) impl.Scheme {
	list := slices.Clone(x.Products)
	for i, q := range list {
		list[i] = expectNormalProduct(x.Prime, q)
	}
	x.Products = list
	return x
}

// withKept returns x with those products of a list that have no factor 0.
func withKept(x impl.Scheme, list []impl.Product) impl.Scheme {
	x.Products = nil
	for _, q := range list {
		if leading(q.A) != 0 && leading(q.B) != 0 && leading(q.C) != 0 {
			x.Products = append(x.Products, q)
		}
	}
	return x
}

func expectFlipped(x impl.Scheme, i, k, f, s int64) impl.Scheme {
	g, h := []int{1, 2, 0}[f], []int{2, 0, 1}[f]
	list := slices.Clone(x.Products)
	*factor(&list[i], g) = together(x.Prime, *factor(&list[i], g), s, *factor(&list[k], g))
	*factor(&list[k], h) = together(x.Prime, *factor(&list[k], h), -s, *factor(&list[i], h))
	return withKept(x, list)
}

func expectFlips(x impl.Scheme) [][]int64 {
	var lists [][]int64
	count := int64(len(x.Products))
	for at := range count * count * 3 {
		i, k, f := at/(count*3), at/3%count, at%3
		if i != k && *factor(&x.Products[i], int(f)) == *factor(&x.Products[k], int(f)) {
			lists = append(lists, []int64{i, k, f})
		}
	}
	return lists
}

func expectWalk(x impl.Scheme, numbers []int64) impl.Scheme {
	for _, number := range numbers {
		if flips := expectFlips(x); len(flips) > 0 {
			flip := flips[number%int64(len(flips))]
			x = expectFlipped(x, flip[0], flip[1], flip[2], 1)
		}
	}
	return x
}

// ratio returns the number t for which g is t times f, or 0.
func ratio(p int64, f, g impl.Form) int64 {
	for t := int64(1); t < p; t++ {
		if times(p, t, f) == g {
			return t
		}
	}
	return 0
}

// firstAlike returns the first i and k, i < k, of products with two parallel factors, or 0 and 0.
func firstAlike(x impl.Scheme) (int, int) {
	for i := range x.Products {
		for k := i + 1; k < len(x.Products); k++ {
			parallel := 0
			for which := range 3 {
				if ratio(x.Prime, *factor(&x.Products[i], which), *factor(&x.Products[k], which)) != 0 {
					parallel++
				}
			}
			if parallel >= 2 {
				return i, k
			}
		}
	}
	return 0, 0
}

func expectReduced(x impl.Scheme) impl.Scheme {
	x = expectNormal(x)
	i, k := firstAlike(x)
	for k > 0 {
		one, other := x.Products[i], x.Products[k]
		switch t := ratio(x.Prime, one.C, other.C); {
		case one.A == other.A && one.B == other.B:
			one.C = together(x.Prime, one.C, 1, other.C)
		case one.A == other.A:
			one.B = together(x.Prime, one.B, t, other.B)
		default:
			one.A = together(x.Prime, one.A, t, other.A)
		}
		list := slices.Clone(x.Products)
		list[i], list[k] = one, impl.Product{}
		x = expectNormal(withKept(x, list))
		i, k = firstAlike(x)
	}
	return x
}

func expectSplit(x impl.Scheme, i, f int64, form impl.Form) impl.Scheme {
	list := append(slices.Clone(x.Products), x.Products[i])
	rest := factor(&list[len(list)-1], int(f))
	*rest = together(x.Prime, *rest, -1, form)
	*factor(&list[i], int(f)) = form
	x.Products = list
	return x
}

func expectPlus(x impl.Scheme, i, k int64) impl.Scheme {
	q, r := x.Products[i], x.Products[k]
	list := append(slices.Clone(x.Products), impl.Product{A: r.A, B: together(x.Prime, r.B, -1, q.B), C: r.C})
	list[i] = impl.Product{A: together(x.Prime, q.A, -1, r.A), B: q.B, C: q.C}
	list[k] = impl.Product{A: r.A, B: q.B, C: together(x.Prime, q.C, 1, r.C)}
	return withKept(x, list)
}

// expectEqual takes each normal product of x out of those of y once.
func expectEqual(x, y impl.Scheme) bool {
	rest := expectNormal(y).Products
	for _, q := range expectNormal(x).Products {
		at := slices.Index(rest, q)
		if at < 0 {
			return false
		}
		rest = slices.Delete(rest, at, at+1)
	}
	return len(rest) == 0
}

// expectSums returns the left sides of all equations, in lexicographic order of their places.
func expectSums(x impl.Scheme) []int64 {
	var sums []int64
	eachEquation(x, func(a, b, c int64) { sums = append(sums, expectLeft(x, a, b, c)) })
	return sums
}
