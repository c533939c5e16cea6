package tests

import (
	"fmt"
	"sort"
	"testing"

	"loop.example/g01262/impl"
)

func TestIsSchemeOrdinary(t *testing.T) {
	s := &sequence{}
	eachSize(func(p, n, m, k int64) {
		for _, products := range []int{0, 1, 29, impl.MaxProducts} {
			x := someScheme(s, p, n, m, k, products)
			wantSame(t, fmt.Sprint("IsScheme of ", x), impl.IsScheme(x), true)
		}
	})
}

func TestIsSchemeInvalid(t *testing.T) {
	for name, x := range notSchemes() {
		wantSame(t, "IsScheme of a scheme with "+name, impl.IsScheme(x), false)
	}
}

// TestIsSchemeForms puts each number at each place of each form.
func TestIsSchemeForms(t *testing.T) {
	eachSize(func(p, n, m, k int64) {
		for place := range len(impl.Form{}) {
			for _, number := range []byte{0, 1, byte(p - 1), byte(p), byte(p + 1), 6, 128, 255} {
				for which := range 3 {
					x := expectStandard(p, n, m, k)
					factor(&x.Products[len(x.Products)-1], which)[place] = number
					wantSame(t, fmt.Sprint("IsScheme of ", x), impl.IsScheme(x), expectScheme(x))
				}
			}
		}
	})
}

func factor(q *impl.Product, which int) *impl.Form {
	return []*impl.Form{&q.A, &q.B, &q.C}[which]
}

func TestSidesOfEquations(t *testing.T) {
	s := &sequence{}
	eachSize(func(p, n, m, k int64) {
		for _, products := range []int{0, 1, 6, 30} {
			x := someScheme(s, p, n, m, k, products)
			eachEquation(x, func(a, b, c int64) {
				what := fmt.Sprint("side of ", a, b, c, " of ", x)
				left, code := impl.LeftSide(x, a, b, c)
				wantCode(t, what, code, impl.ErrNone)
				wantSame(t, what, left, expectLeft(x, a, b, c))
				right, code := impl.RightSide(x, a, b, c)
				wantCode(t, what, code, impl.ErrNone)
				wantSame(t, what, right, expectRight(x, a, b, c))
			})
		}
	})
}

func TestLeftSideExamples(t *testing.T) {
	x := makeScheme(5, 1, 2, 1, "34 02 2; 40 13 4; 11 11 1")
	// The sums are 17, 61, 1 and 17.
	for at, want := range []int64{2, 1, 1, 2} {
		left, code := impl.LeftSide(x, int64(at/2), int64(at%2), 0)
		wantCode(t, "LeftSide", code, impl.ErrNone)
		wantSame(t, fmt.Sprint("LeftSide of ", at), left, want)
	}
}

// wantWrong tests what the three functions that look for wrong equations tell of a scheme.
func wantWrong(t *testing.T, x impl.Scheme, wrong [][]int64) {
	t.Helper()
	what := fmt.Sprint("of ", x)
	correct, code := impl.IsCorrect(x)
	wantCode(t, "IsCorrect "+what, code, impl.ErrNone)
	wantSame(t, "IsCorrect "+what, correct, len(wrong) == 0)
	count, code := impl.CountWrong(x)
	wantCode(t, "CountWrong "+what, code, impl.ErrNone)
	wantSame(t, "CountWrong "+what, count, int64(len(wrong)))
	first, code := impl.FirstWrong(x)
	if len(wrong) == 0 {
		wantError(t, "FirstWrong "+what, first, code, impl.ErrNotFound)
		return
	}
	wantCode(t, "FirstWrong "+what, code, impl.ErrNone)
	wantSame(t, "FirstWrong "+what, first, wrong[0])
}

func TestWrongOfSomeSchemes(t *testing.T) {
	s := &sequence{}
	eachSize(func(p, n, m, k int64) {
		for _, products := range []int{0, 1, 5, 30} {
			x := someScheme(s, p, n, m, k, products)
			wantWrong(t, x, expectWrong(x))
		}
	})
}

// TestWrongAtOneEquation breaks each equation of standard schemes alone.
func TestWrongAtOneEquation(t *testing.T) {
	for _, size := range [][3]int64{{1, 1, 1}, {1, 2, 3}, {3, 1, 2}, {2, 3, 1}, {2, 2, 2}, {3, 3, 3}} {
		for _, p := range primes {
			x := expectStandard(p, size[0], size[1], size[2])
			eachEquation(x, func(a, b, c int64) {
				y := x
				var q impl.Product
				q.A[a], q.B[b], q.C[c] = 1, byte(p-1), 1
				y.Products = append(append([]impl.Product{}, x.Products...), q)
				wantWrong(t, y, [][]int64{{a, b, c}})
			})
		}
	}
}

func TestWrongWithoutProducts(t *testing.T) {
	eachSize(func(p, n, m, k int64) {
		x := impl.Scheme{Prime: p, Rows: n, Inner: m, Cols: k}
		count, code := impl.CountWrong(x)
		wantCode(t, "CountWrong", code, impl.ErrNone)
		wantSame(t, fmt.Sprint("CountWrong of ", x), count, n*m*k)
		first, code := impl.FirstWrong(x)
		wantCode(t, "FirstWrong", code, impl.ErrNone)
		wantSame(t, fmt.Sprint("FirstWrong of ", x), first, []int64{0, 0, 0})
	})
}

func TestMakeProductOfSomeSchemes(t *testing.T) {
	s := &sequence{}
	eachSize(func(p, n, m, k int64) {
		for _, products := range []int{0, 1, 7, 30} {
			x := someScheme(s, p, n, m, k, products)
			left, right := someMatrix(s, p, n, m), someMatrix(s, p, m, k)
			made, code := impl.MakeProduct(x, left, right)
			what := fmt.Sprint("MakeProduct of ", x, left, right)
			wantCode(t, what, code, impl.ErrNone)
			wantSame(t, what, made, expectMade(x, left, right))
		}
	})
}

func TestPlainProductOfAllSizes(t *testing.T) {
	s := &sequence{}
	eachSize(func(p, n, m, k int64) {
		for range 5 {
			left, right := someMatrix(s, p, n, m), someMatrix(s, p, m, k)
			made, code := impl.PlainProduct(p, left, right)
			what := fmt.Sprint("PlainProduct of ", p, left, right)
			wantCode(t, what, code, impl.ErrNone)
			wantSame(t, what, made, expectProduct(p, left, right))
		}
	})
}

func TestRanksOfAllForms(t *testing.T) {
	for _, p := range primes {
		x := impl.Scheme{Prime: p, Rows: 2, Inner: 2, Cols: 2}
		for number := int64(1); number < power(p, 4); number++ {
			var f impl.Form
			for at := range int64(4) {
				f[at] = byte(number / power(p, at) % p)
			}
			x.Products = append(x.Products, impl.Product{A: f, B: f, C: f})
			if len(x.Products) == impl.MaxProducts {
				wantRanks(t, x)
				x.Products = nil
			}
		}
		wantRanks(t, x)
	}
}

func TestRanksOfSomeForms(t *testing.T) {
	s := &sequence{}
	eachSize(func(p, n, m, k int64) {
		wantRanks(t, impl.Scheme{Prime: p, Rows: n, Inner: m, Cols: k})
		wantRanks(t, someScheme(s, p, n, m, k, 30))
		wantRanks(t, standard(t, p, n, m, k))
	})
}

// TestRanksOfOneFormInThreePlaces has one list of numbers that is a different matrix in A, B and C.
func TestRanksOfOneFormInThreePlaces(t *testing.T) {
	x := makeScheme(2, 2, 2, 3, "1001 1001 1001; 1001 100101 100101; 1001 1001 100010")
	ranks, code := impl.RanksOf(x)
	wantCode(t, "RanksOf", code, impl.ErrNone)
	wantSame(t, "RanksOf", ranks, [][]int64{{2, 1, 1}, {2, 2, 2}, {2, 1, 2}})
	x = makeScheme(3, 3, 3, 3, "100010001 111111111 120120120; 012100120 011101110 112221111")
	ranks, code = impl.RanksOf(x)
	wantCode(t, "RanksOf", code, impl.ErrNone)
	wantSame(t, "RanksOf", ranks, [][]int64{{3, 1, 1}, {3, 3, 2}})
	// The determinant of the last form is 2: it has the rank 2 for the prime 2 alone.
	for at, want := range []int64{2, 3, 3} {
		x = makeScheme(primes[at], 3, 3, 3, "011101110 011101110 011101110")
		ranks, code = impl.RanksOf(x)
		wantCode(t, "RanksOf", code, impl.ErrNone)
		wantSame(t, "RanksOf", ranks, [][]int64{{want, want, want}})
	}
}

func wantRanks(t *testing.T, x impl.Scheme) {
	t.Helper()
	ranks, code := impl.RanksOf(x)
	wantCode(t, fmt.Sprint("RanksOf ", x), code, impl.ErrNone)
	want := [][]int64{}
	for _, q := range x.Products {
		want = append(want, []int64{
			expectRank(x.Prime, x.Rows, x.Inner, q.A),
			expectRank(x.Prime, x.Inner, x.Cols, q.B),
			expectRank(x.Prime, x.Rows, x.Cols, q.C),
		})
	}
	wantSame(t, fmt.Sprint("RanksOf ", x), ranks, want)
}

func TestSortScheme(t *testing.T) {
	s := &sequence{}
	eachSize(func(p, n, m, k int64) {
		for _, products := range []int{0, 1, 2, 15, 30} {
			x := someScheme(s, p, n, m, k, products)
			for at := range x.Products {
				// Products that differ in one form alone, and equal ones, tell how far it compares.
				if other := x.Products[s.below(int64(at)+1)]; at%2 == 1 {
					*factor(&x.Products[at], at%3) = *factor(&other, at%3)
					*factor(&x.Products[at], (at+1)%3) = *factor(&other, (at+1)%3)
				}
			}
			y, code := impl.SortScheme(x)
			wantCode(t, "SortScheme", code, impl.ErrNone)
			wantSame(t, fmt.Sprint("SortScheme of ", x), y, expectSorted(x))
			left, right := someMatrix(s, p, n, m), someMatrix(s, p, m, k)
			made, code := impl.MakeProduct(y, left, right)
			wantCode(t, "MakeProduct", code, impl.ErrNone)
			wantSame(t, "MakeProduct of the sorted scheme", made, expectMade(x, left, right))
		}
	})
}

func expectSorted(x impl.Scheme) impl.Scheme {
	x.Products = append([]impl.Product{}, x.Products...)
	sort.Slice(x.Products, func(i, j int) bool {
		return expectProductText(x, x.Products[i]) < expectProductText(x, x.Products[j])
	})
	return x
}

func TestAddProduct(t *testing.T) {
	s := &sequence{}
	eachSize(func(p, n, m, k int64) {
		x := impl.Scheme{Prime: p, Rows: n, Inner: m, Cols: k}
		for len(x.Products) < impl.MaxProducts {
			q := someProduct(s, p, n, m, k)
			y, code := impl.AddProduct(x, q)
			wantCode(t, "AddProduct", code, impl.ErrNone)
			want := x
			want.Products = append(append([]impl.Product{}, x.Products...), q)
			wantSame(t, fmt.Sprint("AddProduct of ", x, q), y, want)
			x = y
		}
		y, code := impl.AddProduct(x, someProduct(s, p, n, m, k))
		wantError(t, "AddProduct to a full scheme", y, code, impl.ErrLimit)
	})
}

func TestAddProductInvalid(t *testing.T) {
	s := &sequence{}
	eachSize(func(p, n, m, k int64) {
		for _, products := range []int{0, 1, 29, impl.MaxProducts} {
			x := someScheme(s, p, n, m, k, products)
			for _, places := range []int64{n * m, m * k, n * k} {
				for which := range 3 {
					q := someProduct(s, p, n, m, k)
					*factor(&q, which) = impl.Form{}
					wantNotAdded(t, x, q)
					factor(&q, which)[s.below(places)] = byte(p)
					wantNotAdded(t, x, q)
				}
			}
			wantNotAddedOutside(t, s, x)
		}
	})
}

// wantNotAddedOutside tries products with a number at the place behind the last one.
func wantNotAddedOutside(t *testing.T, s *sequence, x impl.Scheme) {
	t.Helper()
	n, m, k := x.Rows, x.Inner, x.Cols
	for which, places := range []int64{n * m, m * k, n * k} {
		if places < 9 {
			q := someProduct(s, x.Prime, n, m, k)
			factor(&q, which)[places] = 1
			wantNotAdded(t, x, q)
		}
	}
}

func wantNotAdded(t *testing.T, x impl.Scheme, q impl.Product) {
	t.Helper()
	y, code := impl.AddProduct(x, q)
	wantError(t, fmt.Sprint("AddProduct of ", x, q), y, code, impl.ErrInvalid)
}

func TestWithoutProduct(t *testing.T) {
	s := &sequence{}
	for _, products := range []int{1, 2, 7, impl.MaxProducts} {
		x := someScheme(s, 3, 2, 3, 2, products)
		for i := range x.Products {
			y, code := impl.WithoutProduct(x, int64(i))
			wantCode(t, "WithoutProduct", code, impl.ErrNone)
			want := x
			want.Products = append(append([]impl.Product{}, x.Products[:i]...), x.Products[i+1:]...)
			wantSame(t, fmt.Sprint("WithoutProduct of ", x, i), y, want)
		}
	}
}

func TestSchemeTextExamples(t *testing.T) {
	for text, x := range map[string]impl.Scheme{
		"2:1x1x1;":                {Prime: 2, Rows: 1, Inner: 1, Cols: 1},
		"5:3x2x1;":                {Prime: 5, Rows: 3, Inner: 2, Cols: 1},
		"5:1x1x1;4*3*2":           makeScheme(5, 1, 1, 1, "4 3 2"),
		"3:1x2x1;10*10*1+01*01*1": makeScheme(3, 1, 2, 1, "10 10 1; 01 01 1"),
		"2:1x2x3;01*000100*001+10*111000*111+01*000100*001": makeScheme(2, 1, 2, 3, "01 0001 001; 10 111 111; 01 0001 001"),
		"3:3x3x3;100000002*012012012*222222222":             makeScheme(3, 3, 3, 3, "100000002 012012012 222222222"),
	} {
		got, code := impl.SchemeText(x)
		wantCode(t, "SchemeText", code, impl.ErrNone)
		wantSame(t, "SchemeText", got, text)
		y, code := impl.ParseScheme(text)
		wantCode(t, "ParseScheme", code, impl.ErrNone)
		wantSame(t, "ParseScheme", y, x)
	}
}
