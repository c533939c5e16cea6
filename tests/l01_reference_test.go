package tests

import (
	"fmt"
	"regexp"
	"strconv"
	"strings"

	"loop.example/g01262/impl"
)

// The functions of this file say again what chapter 1 says, in the plainest way.

func expectScheme(x impl.Scheme) bool {
	n, m, k := x.Rows, x.Inner, x.Cols
	if x.Prime != 2 && x.Prime != 3 && x.Prime != 5 || min(n, m, k) < 1 || max(n, m, k) > 3 || len(x.Products) > 30 {
		return false
	}
	for _, q := range x.Products {
		if !expectForm(x.Prime, n*m, q.A) || !expectForm(x.Prime, m*k, q.B) || !expectForm(x.Prime, n*k, q.C) {
			return false
		}
	}
	return true
}

func expectForm(p, places int64, f impl.Form) bool {
	some := false
	for at, number := range f {
		if int64(number) >= p || number != 0 && int64(at) >= places {
			return false
		}
		some = some || number != 0
	}
	return some
}

func expectStandard(p, n, m, k int64) impl.Scheme {
	x := impl.Scheme{Prime: p, Rows: n, Inner: m, Cols: k}
	for at := range n * m * k {
		i, j, l := at/(m*k), at/k%m, at%k
		var q impl.Product
		q.A[i*m+j], q.B[j*k+l], q.C[i*k+l] = 1, 1, 1
		x.Products = append(x.Products, q)
	}
	return x
}

func expectLeft(x impl.Scheme, a, b, c int64) int64 {
	sum := int64(0)
	for _, q := range x.Products {
		sum += int64(q.A[a]) * int64(q.B[b]) * int64(q.C[c])
	}
	return sum % x.Prime
}

func expectRight(x impl.Scheme, a, b, c int64) int64 {
	for i := range x.Rows {
		for j := range x.Inner {
			for l := range x.Cols {
				if a == i*x.Inner+j && b == j*x.Cols+l && c == i*x.Cols+l {
					return 1
				}
			}
		}
	}
	return 0
}

// eachEquation calls do for the places of each equation of x, in lexicographic order.
func eachEquation(x impl.Scheme, do func(a, b, c int64)) {
	for a := range x.Rows * x.Inner {
		for b := range x.Inner * x.Cols {
			for c := range x.Rows * x.Cols {
				do(a, b, c)
			}
		}
	}
}

// expectWrong returns the places of all equations that do not hold.
func expectWrong(x impl.Scheme) [][]int64 {
	var wrong [][]int64
	eachEquation(x, func(a, b, c int64) {
		if expectLeft(x, a, b, c) != expectRight(x, a, b, c) {
			wrong = append(wrong, []int64{a, b, c})
		}
	})
	return wrong
}

func expectMade(x impl.Scheme, left, right [][]int64) [][]int64 {
	made := make([][]int64, x.Rows)
	for i := range made {
		made[i] = make([]int64, x.Cols)
		for l := range made[i] {
			made[i][l] = expectEntry(x, left, right, i*int(x.Cols)+l)
		}
	}
	return made
}

func expectEntry(x impl.Scheme, left, right [][]int64, c int) int64 {
	sum := int64(0)
	for _, q := range x.Products {
		first, second := int64(0), int64(0)
		for a := range x.Rows * x.Inner {
			first += int64(q.A[a]) * left[a/x.Inner][a%x.Inner]
		}
		for b := range x.Inner * x.Cols {
			second += int64(q.B[b]) * right[b/x.Cols][b%x.Cols]
		}
		sum += int64(q.C[c]) * first * second
	}
	return sum % x.Prime
}

func expectProduct(p int64, left, right [][]int64) [][]int64 {
	made := make([][]int64, len(left))
	for i := range left {
		for l := range right[0] {
			sum := int64(0)
			for j := range right {
				sum += left[i][j] * right[j][l]
			}
			made[i] = append(made[i], sum%p)
		}
	}
	return made
}

// expectRank finds the rank from the number of different sums of multiples of rows, p to the rank.
func expectRank(p, rows, cols int64, f impl.Form) int64 {
	sums := map[string]bool{}
	for choice := range power(p, rows) {
		sum := make([]int64, cols)
		for i := range rows {
			factor := choice / power(p, i) % p
			for j := range cols {
				sum[j] = (sum[j] + factor*int64(f[i*cols+j])) % p
			}
		}
		sums[fmt.Sprint(sum)] = true
	}
	rank := int64(0)
	for count := len(sums); count > 1; count /= int(p) {
		rank++
	}
	return rank
}

func expectText(x impl.Scheme) string {
	var products []string
	for _, q := range x.Products {
		products = append(products, expectProductText(x, q))
	}
	return fmt.Sprintf("%d:%dx%dx%d;%s", x.Prime, x.Rows, x.Inner, x.Cols, strings.Join(products, "+"))
}

func expectProductText(x impl.Scheme, q impl.Product) string {
	digits := func(f impl.Form, places int64) string {
		text := ""
		for at := range places {
			text += strconv.Itoa(int(f[at]))
		}
		return text
	}
	return digits(q.A, x.Rows*x.Inner) + "*" + digits(q.B, x.Inner*x.Cols) + "*" + digits(q.C, x.Rows*x.Cols)
}

var schemePattern = regexp.MustCompile(`\A([0-9]):([0-9])x([0-9])x([0-9]);((?:[0-9]+\*[0-9]+\*[0-9]+(?:\+[0-9]+\*[0-9]+\*[0-9]+)*)?)\z`)

// expectParse returns the scheme with a text, and whether there is one.
func expectParse(text string) (impl.Scheme, bool) {
	parts := schemePattern.FindStringSubmatch(text)
	if parts == nil {
		return impl.Scheme{}, false
	}
	number := func(at int) int64 { return int64(parts[at][0] - '0') }
	x := impl.Scheme{Prime: number(1), Rows: number(2), Inner: number(3), Cols: number(4)}
	if parts[5] == "" {
		return x, expectScheme(x)
	}
	for _, product := range strings.Split(parts[5], "+") {
		forms := strings.Split(product, "*")
		if max(len(forms[0]), len(forms[1]), len(forms[2])) > len(impl.Form{}) {
			return impl.Scheme{}, false
		}
		x.Products = append(x.Products, impl.Product{
			A: makeForm(x.Prime, forms[0]), B: makeForm(x.Prime, forms[1]), C: makeForm(x.Prime, forms[2]),
		})
	}
	return x, expectScheme(x) && expectText(x) == text
}
