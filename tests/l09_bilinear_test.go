package tests

import (
	"fmt"
	"slices"
	"testing"

	"loop.example/g01262/impl"
)

func TestMethodsAreMethods(t *testing.T) {
	eachMethod(func(s *sequence, m impl.Method) {
		if !impl.IsMethod(m) || !expectMethod(m) {
			t.Fatalf("IsMethod of %v is false", m)
		}
	})
}

// TestTensorOfMethodByHand has tensors that were found by hand.
func TestTensorOfMethodByHand(t *testing.T) {
	for _, example := range []struct {
		m       impl.Method
		numbers []int64
	}{
		{bareMethod(3, [3]int64{1, 2, 1}), []int64{0, 0}},
		{makeMethod(5, [3]int64{1, 1, 1}, "4 3 4"), []int64{3}},
		{makeMethod(2, [3]int64{1, 1, 1}, "1 1 1; 1 1 1"), []int64{0}},
		{makeMethod(3, [3]int64{1, 2, 3}, "2 01 120"), []int64{0, 0, 0, 2, 1, 0}},
		{makeMethod(3, [3]int64{3, 1, 2}, "102 1 01; 010 2 20"), []int64{0, 1, 1, 0, 0, 2}},
		{makeMethod(5, [3]int64{2, 2, 2}, "11 10 01; 01 11 10"), []int64{0, 1, 0, 0, 1, 1, 1, 0}},
		{karatsuba(2), []int64{1, 0, 0, 0, 1, 0, 0, 1, 0, 0, 0, 1}},
	} {
		x := tensorOfMethod(t, example.m)
		wantList(t, fmt.Sprint("numbers of the tensor of ", example.m), x.Numbers, impl.ErrNone, example.numbers)
	}
}

// allForms returns all forms of a number of places but the one that is 0 everywhere.
func allForms(p, places int64) []impl.Form {
	var list []impl.Form
	for _, numbers := range allColumns(p, places)[1:] {
		var f impl.Form
		for at, number := range numbers {
			f[at] = byte(number)
		}
		list = append(list, f)
	}
	return list
}

// TestTensorsOfAllSmallMethods has all pairs of products with short sides.
func TestTensorsOfAllSmallMethods(t *testing.T) {
	sides := [3]int64{2, 1, 2}
	var products []impl.Product
	for _, a := range allForms(3, sides[0]) {
		for _, b := range allForms(3, sides[1]) {
			for _, c := range allForms(3, sides[2]) {
				products = append(products, impl.Product{A: a, B: b, C: c})
			}
		}
	}
	wantSame(t, "products", len(products), 8*2*8)
	for _, q := range products {
		for _, r := range products {
			m := bareMethod(3, sides)
			m.Products = []impl.Product{q, r}
			wantNotBelow(t, m)
		}
	}
}

// TestMethodFitsNothingElse changes each number of a tensor, its prime and its sides.
func TestMethodFitsNothingElse(t *testing.T) {
	s := &sequence{}
	for _, p := range primes {
		for _, m := range []impl.Method{karatsuba(p), someMethod(s, p, [3]int64{1, 2, 3}, 4), bareMethod(p, [3]int64{2, 2, 2}), expectSchemeMethod(strassen(p))} {
			x := expectMethodTensor(m)
			for place, number := range x.Numbers {
				other := x
				other.Numbers = slices.Clone(x.Numbers)
				other.Numbers[place] = (number + 1 + s.below(p-1)) % p
				wantFits(t, m, other, false)
			}
			wantFits(t, m, x, true)
		}
	}
}

// TestMethodFitsOtherPrimesAndSides has tensors with the very same numbers, but another prime or other sides.
func TestMethodFitsOtherPrimesAndSides(t *testing.T) {
	for _, p := range primes {
		for _, q := range primes {
			one := makeMethod(p, [3]int64{1, 1, 1}, "1 1 1")
			wantFits(t, one, makeTensor(q, [3]int64{1, 1, 1}, func(i, j, k int64) int64 { return 1 }), p == q)
			for _, sides := range [][3]int64{{2, 3, 4}, {9, 9, 9}} {
				wantFits(t, bareMethod(p, sides), makeTensor(q, sides, func(i, j, k int64) int64 { return 0 }), p == q)
			}
		}
		for _, sides := range someSides {
			for _, others := range someSides {
				wantFits(t, bareMethod(p, sides), makeTensor(p, others, func(i, j, k int64) int64 { return 0 }), sides == others)
			}
		}
	}
}

// TestListsMadeByHand has the products of polynomials, found by hand, and others.
func TestListsMadeByHand(t *testing.T) {
	for _, example := range []struct {
		m       impl.Method
		u, v    []int64
		numbers []int64
	}{
		{karatsuba(5), []int64{1, 2}, []int64{3, 4}, []int64{3, 0, 3}},
		{karatsuba(3), []int64{2, 2}, []int64{1, 2}, []int64{2, 0, 1}},
		{karatsuba(2), []int64{1, 1}, []int64{1, 1}, []int64{1, 0, 1}},
		{makeMethod(5, [3]int64{3, 1, 2}, "123 4 01; 004 3 20"), []int64{1, 1, 4}, []int64{2}, []int64{2, 0}},
		{makeMethod(3, [3]int64{1, 1, 3}, "2 2 012"), []int64{2}, []int64{1}, []int64{0, 2, 1}},
		{bareMethod(2, [3]int64{2, 3, 1}), []int64{1, 1}, []int64{1, 1, 1}, []int64{0}},
	} {
		wantMade(t, example.m, tensorOfMethod(t, example.m), example.u, example.v)
		made, code := impl.MakeList(example.m, example.u, example.v)
		wantList(t, fmt.Sprint("MakeList of ", example.m), made, code, example.numbers)
	}
}

// TestValuesOfAnyTensors has tensors that are of no method with as few products as a method has.
func TestValuesOfAnyTensors(t *testing.T) {
	eachTensor(t, func(s *sequence, x impl.Tensor) {
		second := someLists(s, x.Prime, x.J)
		for at, u := range someLists(s, x.Prime, x.I) {
			value, code := impl.ValueOfTensor(x, u, second[at])
			wantList(t, fmt.Sprint("ValueOfTensor of ", x, u, second[at]), value, code, expectTensorValue(x, u, second[at]))
		}
	})
}

// TestValuesOfSingleNumbers tests that lists with a single 1 find the numbers of a tensor.
func TestValuesOfSingleNumbers(t *testing.T) {
	s := &sequence{}
	for _, p := range primes {
		for _, sides := range someSides {
			x := tensorsOf(s, p, sides)[7]
			for i := range x.I {
				for j := range x.J {
					value, code := impl.ValueOfTensor(x, unitList(x.I, i), unitList(x.J, j))
					wantList(t, "ValueOfTensor", value, code, x.Numbers[(i*x.J+j)*x.K:(i*x.J+j+1)*x.K])
				}
			}
		}
	}
}

// TestPlainMethodByHand has the order of the places, and the numbers in A alone.
func TestPlainMethodByHand(t *testing.T) {
	for _, example := range []struct {
		x        impl.Tensor
		products string
	}{
		{impl.Tensor{Prime: 5, I: 1, J: 1, K: 1, Numbers: []int64{3}}, "3 1 1"},
		{impl.Tensor{Prime: 5, I: 2, J: 2, K: 2, Numbers: []int64{1, 2, 3, 4, 0, 0, 2, 3}},
			"1 1 1; 2 1 01; 3 01 1; 4 01 01; 02 01 1; 03 01 01"},
		{impl.Tensor{Prime: 3, I: 3, J: 1, K: 2, Numbers: []int64{0, 2, 1, 0, 0, 1}}, "2 1 01; 01 1 1; 001 1 01"},
		{impl.Tensor{Prime: 2, I: 1, J: 3, K: 2, Numbers: []int64{1, 0, 0, 0, 1, 1}}, "1 1 1; 1 001 1; 1 001 01"},
		{impl.Tensor{Prime: 2, I: 1, J: 2, K: 3, Numbers: []int64{0, 0, 1, 1, 0, 0}}, "1 1 001; 1 01 1"},
	} {
		made, code := impl.PlainMethod(example.x)
		wantMethod(t, "PlainMethod", made, code, makeMethod(example.x.Prime, sidesOf(example.x), example.products))
	}
}

func TestPlainMethodsOfZeros(t *testing.T) {
	for _, p := range primes {
		for _, sides := range someSides {
			zero := makeTensor(p, sides, func(i, j, k int64) int64 { return 0 })
			made, code := impl.PlainMethod(zero)
			wantMethod(t, "PlainMethod of zeros", made, code, bareMethod(p, sides))
			wantSame(t, "BoundOf zeros", boundOf(t, zero), int64(0))
			value, code := impl.ValueOfTensor(zero, someList(&sequence{}, p, sides[0]), someList(&sequence{}, p, sides[1]))
			wantList(t, "ValueOfTensor of zeros", value, code, make([]int64, sides[2]))
		}
	}
}

// TestMethodsWithoutProducts has what all functions tell of them.
func TestMethodsWithoutProducts(t *testing.T) {
	for _, p := range primes {
		for _, sides := range someSides {
			m := bareMethod(p, sides)
			zero := makeTensor(p, sides, func(i, j, k int64) int64 { return 0 })
			wantTensor(t, "TensorOfMethod", m, tensorOfMethod(t, m), impl.ErrNone, zero)
			wantFits(t, m, zero, true)
			wantMade(t, m, zero, slices.Repeat([]int64{p - 1}, int(m.I)), slices.Repeat([]int64{1}, int(m.J)))
			turnOfMethod(t, m)
			for _, n := range []impl.Method{makeMethod(p, [3]int64{1, 1, 1}, "1 1 1"), fullMethod(p, [3]int64{1, 1, 1}, impl.MaxProducts), bareMethod(p, [3]int64{1, 1, 1})} {
				for _, pair := range [][2]impl.Method{{m, n}, {n, m}} {
					made, code := impl.KroneckerMethods(pair[0], pair[1])
					wantMethod(t, "KroneckerMethods", made, code, m)
				}
			}
		}
	}
}

// TestMethodsWithMostProducts has MaxProducts products, of sides of 1 and of MaxSide.
func TestMethodsWithMostProducts(t *testing.T) {
	s := &sequence{}
	for _, p := range primes {
		for _, sides := range [][3]int64{{1, 1, 1}, {9, 9, 9}, {1, 9, 1}, {9, 1, 1}, {1, 1, 9}} {
			for _, m := range []impl.Method{fullMethod(p, sides, impl.MaxProducts), someMethod(s, p, sides, impl.MaxProducts), lastMethod(p, sides, impl.MaxProducts)} {
				wantSame(t, "IsMethod", impl.IsMethod(m), true)
				wantFits(t, m, tensorOfMethod(t, m), true)
				turnOfMethod(t, m)
				one := makeMethod(p, [3]int64{1, 1, 1}, "1 1 1")
				for _, pair := range [][2]impl.Method{{m, one}, {one, m}} {
					made, code := impl.KroneckerMethods(pair[0], pair[1])
					wantMethod(t, "KroneckerMethods with one", made, code, m)
				}
			}
		}
	}
}

func TestPolynomialTensors(t *testing.T) {
	s := &sequence{}
	for _, p := range primes {
		for n := int64(1); n <= impl.MaxSide; n++ {
			for m := int64(1); n+m-1 <= impl.MaxSide; m++ {
				made, code := impl.PolynomialTensor(p, n, m)
				wantTensor(t, "PolynomialTensor", fmt.Sprint(p, n, m), made, code, expectPolynomial(p, n, m))
				second := someLists(s, p, m)
				for at, u := range someLists(s, p, n) {
					value, code := impl.ValueOfTensor(made, u, second[at])
					wantList(t, "ValueOfTensor of a polynomial tensor", value, code, polynomialProduct(p, u, second[at]))
				}
			}
		}
	}
}

// TestPolynomialTensorsOfAllLists multiplies all polynomials with few numbers.
func TestPolynomialTensorsOfAllLists(t *testing.T) {
	for _, p := range primes {
		for n := int64(1); n <= 3; n++ {
			for m := int64(1); n+m <= 5; m++ {
				made, code := impl.PolynomialTensor(p, n, m)
				wantCode(t, "PolynomialTensor", code, impl.ErrNone)
				for _, u := range allColumns(p, n) {
					for _, v := range allColumns(p, m) {
						value, code := impl.ValueOfTensor(made, u, v)
						wantList(t, fmt.Sprint("product of ", u, v), value, code, polynomialProduct(p, u, v))
					}
				}
			}
		}
	}
}

func TestRestTensorExample(t *testing.T) {
	made, code := impl.RestTensor(3, []int64{1, 0})
	wantList(t, "numbers of RestTensor", made.Numbers, code, []int64{1, 0, 0, 1, 0, 1, 2, 0})
	number, code := impl.NumberAt(made, 1, 1, 0)
	wantCode(t, "NumberAt", code, impl.ErrNone)
	wantSame(t, "the number at 1, 1, 0", number, int64(2))
}

// TestRestTensorsByHand has the rests of x^4 and of x^6 and others, found by hand.
func TestRestTensorsByHand(t *testing.T) {
	for _, example := range []struct {
		p, i, j int64
		list    []int64
		rest    []int64
	}{
		{2, 2, 2, []int64{1, 1, 0, 0}, []int64{1, 1, 0, 0}},
		{2, 3, 3, []int64{1, 1, 0, 0}, []int64{0, 0, 1, 1}},
		{2, 1, 3, []int64{1, 1, 1, 1}, []int64{1, 1, 1, 1}},
		{2, 2, 3, []int64{1, 1, 1, 1}, []int64{1, 0, 0, 0}},
		{5, 1, 2, []int64{1, 2, 3}, []int64{4, 3, 2}},
		{5, 2, 2, []int64{1, 2, 3}, []int64{3, 0, 2}},
		{3, 1, 2, []int64{0, 0, 0}, []int64{0, 0, 0}},
		{5, 0, 0, []int64{3}, []int64{1}},
		{3, 0, 1, []int64{2, 2}, []int64{0, 1}},
		{3, 1, 1, []int64{2, 2}, []int64{1, 1}},
	} {
		made, code := impl.RestTensor(example.p, example.list)
		wantCode(t, "RestTensor", code, impl.ErrNone)
		d := int64(len(example.list))
		value, code := impl.ValueOfTensor(made, unitList(d, example.i), unitList(d, example.j))
		wantList(t, fmt.Sprint("the rest of x^", example.i+example.j, " for ", example.p, " and ", example.list), value, code, example.rest)
	}
}

// TestRestTensors takes all lists of all primes. It multiplies polynomials, and divides the product.
func TestRestTensors(t *testing.T) {
	s := &sequence{}
	for _, p := range primes {
		for d := int64(1); d <= impl.MaxRest; d++ {
			for _, list := range allColumns(p, d) {
				made, code := impl.RestTensor(p, list)
				wantTensor(t, "RestTensor", fmt.Sprint(p, list), made, code, expectRest(p, list))
				u, v := someList(s, p, d), someList(s, p, d)
				value, code := impl.ValueOfTensor(made, u, v)
				rest := longDivision(p, polynomialProduct(p, u, v), divisorOf(list))
				wantList(t, fmt.Sprint("the product of ", u, v, " by ", list), value, code, append(rest, 0, 0, 0)[:d])
			}
		}
	}
}

// TestRestTensorsTurnAround tests that the rests by x^d - 1 are those where x^d is 1.
func TestRestTensorsTurnAround(t *testing.T) {
	for _, p := range primes {
		for d := int64(1); d <= impl.MaxRest; d++ {
			list := make([]int64, d)
			list[0] = p - 1
			made, code := impl.RestTensor(p, list)
			around := makeTensor(p, [3]int64{d, d, d}, func(i, j, k int64) int64 { return int64(count((i+j)%d == k)) })
			wantTensor(t, "RestTensor", fmt.Sprint(p, list), made, code, around)
		}
	}
}

// TestTriangularTensorsByHand has the tensors of 1 and 2, found by hand.
func TestTriangularTensorsByHand(t *testing.T) {
	for _, p := range primes {
		made, code := impl.TriangularTensor(p, 1)
		wantTensor(t, "TriangularTensor", 1, made, code, impl.Tensor{Prime: p, I: 1, J: 1, K: 1, Numbers: []int64{1}})
		made, code = impl.TriangularTensor(p, 2)
		numbers := []int64{1, 0, 0, 0, 1, 0, 0, 0, 0, 0, 0, 0, 0, 0, 0, 0, 1, 0, 0, 0, 0, 0, 0, 0, 0, 0, 1}
		wantTensor(t, "TriangularTensor", 2, made, code, impl.Tensor{Prime: p, I: 3, J: 3, K: 3, Numbers: numbers})
		made, code = impl.TriangularTensor(p, 3)
		wantCode(t, "TriangularTensor", code, impl.ErrNone)
		wantSame(t, "sides of TriangularTensor", sidesOf(made), [3]int64{6, 6, 6})
		m, code := impl.PlainMethod(made)
		wantCode(t, "PlainMethod", code, impl.ErrNone)
		wantSame(t, "numbers of TriangularTensor other than 0", len(m.Products), 10)
	}
}

// TestTriangularTensors multiplies triangular matrices: all modulo 2, all of 2 rows, and others.
func TestTriangularTensors(t *testing.T) {
	s := &sequence{}
	for _, p := range primes {
		for n := int64(1); n <= 3; n++ {
			made, code := impl.TriangularTensor(p, n)
			wantTensor(t, "TriangularTensor", fmt.Sprint(p, n), made, code, expectTriangular(p, n))
			lists := append(someLists(s, p, made.I), someLists(s, p, made.I)...)
			if power(p, made.I) < 200 {
				lists = allColumns(p, made.I)
			}
			for _, u := range lists {
				for _, v := range lists {
					value, code := impl.ValueOfTensor(made, u, v)
					product := expectProduct(p, triangle(n, u), triangle(n, v))
					wantList(t, fmt.Sprint("product of ", u, v, " of ", n, " rows"), value, code, aboveDiagonal(product))
				}
			}
		}
	}
}

func TestKaratsubaMethod(t *testing.T) {
	for _, p := range primes {
		made, code := impl.KaratsubaMethod(p)
		wantMethod(t, "KaratsubaMethod", made, code, karatsuba(p))
		wantFits(t, made, expectPolynomial(p, 2, 2), true)
		for _, u := range allColumns(p, 2) {
			for _, v := range allColumns(p, 2) {
				list, code := impl.MakeList(made, u, v)
				wantList(t, fmt.Sprint("product of ", u, v), list, code, polynomialProduct(p, u, v))
			}
		}
	}
}

func TestMethodOfScheme(t *testing.T) {
	eachSchemeToMove(func(s *sequence, x impl.Scheme) { methodOfScheme(t, x) })
	s := &sequence{}
	eachSize(func(p, n, m, k int64) {
		methodOfScheme(t, someScheme(s, p, n, m, k, impl.MaxProducts))
		made, code := impl.MethodOfScheme(impl.Scheme{Prime: p, Rows: n, Inner: m, Cols: k})
		wantMethod(t, "MethodOfScheme without products", made, code, bareMethod(p, [3]int64{n * m, m * k, n * k}))
	})
}

func TestKroneckerMethods(t *testing.T) {
	pairsOfMethods(func(s *sequence, m, n impl.Method) { kronecker(t, m, n) })
}

// TestKroneckerMethodsByHand has the order of the products and of the places, found by hand.
func TestKroneckerMethodsByHand(t *testing.T) {
	for _, example := range []struct {
		m, n impl.Method
		want impl.Method
	}{
		{
			makeMethod(5, [3]int64{2, 1, 1}, "12 1 1; 03 2 4"), makeMethod(5, [3]int64{2, 3, 1}, "34 001 2; 10 120 1; 01 1 3"),
			makeMethod(5, [3]int64{4, 3, 1}, "3413 001 2; 1020 120 1; 0102 1 3; 0042 002 3; 003 240 4; 0003 2 2"),
		},
		{
			makeMethod(3, [3]int64{1, 3, 2}, "2 102 01"), makeMethod(3, [3]int64{3, 2, 2}, "012 12 21"),
			makeMethod(3, [3]int64{3, 6, 4}, "021 120021 0021"),
		},
		{
			makeMethod(2, [3]int64{3, 2, 1}, "101 01 1; 010 11 1"), makeMethod(2, [3]int64{1, 2, 3}, "1 10 011; 1 01 100"),
			makeMethod(2, [3]int64{3, 4, 3}, "101 001 011; 101 0001 1; 01 101 011; 01 0101 1"),
		},
	} {
		made, code := impl.KroneckerMethods(example.m, example.n)
		wantMethod(t, "KroneckerMethods", made, code, example.want)
	}
}

// TestKroneckerMethodsTogether tests that the places of three methods stand in the same order, whichever two are
// multiplied first.
func TestKroneckerMethodsTogether(t *testing.T) {
	s := &sequence{}
	for _, p := range primes {
		for range 20 {
			first := someMethod(s, p, [3]int64{2, 1, 3}, int(s.below(4)))
			second, third := someMethod(s, p, [3]int64{2, 3, 1}, int(s.below(4))), someMethod(s, p, [3]int64{2, 2, 3}, int(s.below(4)))
			front, _ := kronecker(t, first, second)
			back, _ := kronecker(t, second, third)
			made, code := impl.KroneckerMethods(front, third)
			again, codeAgain := impl.KroneckerMethods(first, back)
			wantMethod(t, "KroneckerMethods", made, code, again)
			wantCode(t, "KroneckerMethods", codeAgain, impl.ErrNone)
		}
	}
}

func TestTurnMethodByHand(t *testing.T) {
	made, code := impl.TurnMethod(makeMethod(5, [3]int64{1, 2, 3}, "4 12 340; 2 01 001"))
	wantMethod(t, "TurnMethod", made, code, makeMethod(5, [3]int64{2, 3, 1}, "12 340 4; 01 001 2"))
	made, code = impl.TurnMethod(karatsuba(3))
	wantMethod(t, "TurnMethod of Karatsuba's", made, code, makeMethod(3, [3]int64{2, 3, 2}, "10 120 10; 01 021 01; 11 010 11"))
}

// TestBoundOf compares bounds with the ranks of all three flattenings; each of them is the greatest one for some.
func TestBoundOf(t *testing.T) {
	alone := [3]int{}
	eachTensor(t, func(s *sequence, x impl.Tensor) {
		bound, ranks := boundOf(t, x), ranksOfTensor(t, x)
		if bound != expectBound(x) || bound != slices.Max(ranks[:]) {
			t.Fatalf("BoundOf %v = %d, but the ranks are %v", x, bound, ranks)
		}
		for side, rank := range ranks {
			if rank == bound && rank > ranks[(side+1)%3] && rank > ranks[(side+2)%3] {
				alone[side]++
			}
		}
	})
	if min(alone[0], alone[1], alone[2]) < 10 {
		t.Fatalf("the ranks at the three sides were alone the greatest ones for only %v tensors", alone)
	}
}

// TestBoundsByHand has bounds that were found by hand.
func TestBoundsByHand(t *testing.T) {
	for _, p := range primes {
		for _, example := range []struct {
			x     impl.Tensor
			bound int64
		}{
			{expectPolynomial(p, 2, 2), 3}, {expectPolynomial(p, 5, 5), 9}, {expectPolynomial(p, 1, 9), 9}, {expectPolynomial(p, 4, 2), 5},
			{expectRest(p, []int64{0}), 1}, {expectRest(p, []int64{1, 0, 0, 1}), 4}, {expectTriangular(p, 3), 6}, {expectTriangular(p, 1), 1},
			{expectSchemeTensor(expectStandard(p, 1, 3, 2)), 6}, {expectSchemeTensor(expectStandard(p, 3, 3, 1)), 9},
			{expectSchemeTensor(strassen(p)), 4},
		} {
			wantSame(t, fmt.Sprint("BoundOf ", example.x), boundOf(t, example.x), example.bound)
			wantSame(t, fmt.Sprint("BoundOf the turn of ", example.x), boundOf(t, expectTurn(example.x)), example.bound)
		}
	}
}
