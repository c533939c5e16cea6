package tests

import (
	"fmt"
	"slices"
	"testing"

	"loop.example/g01262/impl"
)

// notMethods returns methods that break one condition each, by the name of what is wrong.
func notMethods() map[string]impl.Method {
	s := &sequence{}
	list := map[string]impl.Method{
		"everything 0":           {},
		"31 equal products":      fullMethod(3, [3]int64{1, 1, 1}, impl.MaxProducts+1),
		"31 drawn products":      someMethod(s, 5, [3]int64{2, 3, 4}, impl.MaxProducts+1),
		"31 products, long ones": someMethod(s, 2, [3]int64{9, 9, 9}, impl.MaxProducts+1),
		"1000 products":          someMethod(s, 2, [3]int64{2, 2, 2}, 1000),
	}
	for _, p := range notPrimes {
		list[fmt.Sprint("the prime ", p)] = bareMethod(p, [3]int64{2, 2, 2})
		list[fmt.Sprint("a product and the prime ", p)] = makeMethod(p, [3]int64{1, 1, 1}, "1 1 1")
	}
	for _, n := range notSides {
		for at := range 3 {
			sides := [3]int64{1, 1, 1}
			sides[at] = n
			list[fmt.Sprint("the side ", at, " ", n)] = bareMethod(2, sides)
			list[fmt.Sprint("a product and the side ", at, " ", n)] = makeMethod(5, sides, "1 1 1")
		}
		list[fmt.Sprint("all sides ", n)] = bareMethod(3, [3]int64{n, n, n})
	}
	for _, p := range primes {
		for which := range 3 {
			for _, products := range []int{1, 2, impl.MaxProducts} {
				for _, at := range []int{0, products - 1} {
					m := someMethod(s, p, [3]int64{2, 3, 4}, products)
					*factor(&m.Products[at], which) = impl.Form{}
					list[fmt.Sprint("0 everywhere in ", which, " of the product ", at, " of ", products, " modulo ", p)] = m
				}
			}
			addWrongForms(list, p, which)
		}
	}
	return list
}

// addWrongForms adds methods with one wrong number: p or more at a place in front of the side, and any one other
// than 0 at another place.
func addWrongForms(list map[string]impl.Method, p int64, which int) {
	s := &sequence{}
	for _, sides := range [][3]int64{{1, 1, 1}, {2, 3, 4}, {8, 1, 5}, {4, 8, 8}, {9, 9, 9}} {
		for place := range int64(9) {
			numbers := []byte{byte(p), byte(p + 1), 255}
			if place >= sides[which] {
				numbers = append(numbers, 1, byte(p-1))
			}
			for _, number := range numbers {
				for at := range 2 {
					m := someMethod(s, p, sides, 2)
					factor(&m.Products[at], which)[place] = number
					list[fmt.Sprint(number, " at ", place, " of the form ", which, " of the product ", at, " for ", p, sides)] = m
				}
			}
		}
	}
}

func TestNoMethods(t *testing.T) {
	for name, m := range notMethods() {
		if impl.IsMethod(m) || expectMethod(m) {
			t.Errorf("IsMethod of a method with %s is true: %v", name, m)
		}
	}
}

// TestMethodsAtTheirLimits has no products, most of them, and sides of 1 and of MaxSide.
func TestMethodsAtTheirLimits(t *testing.T) {
	for _, p := range primes {
		for _, sides := range someSides {
			for _, products := range []int{0, 1, impl.MaxProducts} {
				wantSame(t, fmt.Sprint("IsMethod of ", products, " products"), impl.IsMethod(fullMethod(p, sides, products)), true)
			}
			wantSame(t, "IsMethod of 31 products", impl.IsMethod(fullMethod(p, sides, impl.MaxProducts+1)), false)
		}
	}
}

// methodCall is a call of a function of chapter 9 with a method.
type methodCall struct {
	name string
	run  func(m impl.Method) (any, int64)
}

// methodCalls returns calls with other arguments that are good for a method of the sides 2, 2 and 2.
func methodCalls() []methodCall {
	one := makeMethod(3, [3]int64{1, 1, 1}, "1 1 1")
	zero := makeTensor(3, [3]int64{2, 2, 2}, func(i, j, k int64) int64 { return 0 })
	return []methodCall{
		{"TensorOfMethod", func(m impl.Method) (any, int64) { return pack(impl.TensorOfMethod(m)) }},
		{"MethodFits", func(m impl.Method) (any, int64) { return pack(impl.MethodFits(m, zero)) }},
		{"MakeList", func(m impl.Method) (any, int64) { return pack(impl.MakeList(m, []int64{1, 0}, []int64{1, 1})) }},
		{"KroneckerMethods with itself", func(m impl.Method) (any, int64) { return pack(impl.KroneckerMethods(m, m)) }},
		{"KroneckerMethods with one", func(m impl.Method) (any, int64) { return pack(impl.KroneckerMethods(m, one)) }},
		{"KroneckerMethods of one", func(m impl.Method) (any, int64) { return pack(impl.KroneckerMethods(one, m)) }},
		{"TurnMethod", func(m impl.Method) (any, int64) { return pack(impl.TurnMethod(m)) }},
	}
}

// badMethodCalls returns calls each of which has an error of its own, or has arguments that do not fit.
func badMethodCalls() []methodCall {
	ones := func(p int64, sides [3]int64) impl.Tensor {
		return makeTensor(p, sides, func(i, j, k int64) int64 { return 1 })
	}
	calls := []methodCall{
		{"MakeList of nothing", func(m impl.Method) (any, int64) { return pack(impl.MakeList(m, nil, nil)) }},
		{"MakeList of great numbers", func(m impl.Method) (any, int64) { return pack(impl.MakeList(m, []int64{7, -1}, []int64{1, 1})) }},
		{"MakeList of long lists", func(m impl.Method) (any, int64) {
			return pack(impl.MakeList(m, make([]int64, 10), make([]int64, 1000)))
		}},
		{"MethodFits of another prime", func(m impl.Method) (any, int64) { return pack(impl.MethodFits(m, ones(5, [3]int64{2, 2, 2}))) }},
		{"MethodFits of other sides", func(m impl.Method) (any, int64) { return pack(impl.MethodFits(m, ones(2, [3]int64{9, 1, 4}))) }},
		{"MethodFits of no tensor", func(m impl.Method) (any, int64) { return pack(impl.MethodFits(m, impl.Tensor{})) }},
	}
	for _, other := range []impl.Method{
		{}, fullMethod(2, [3]int64{9, 9, 9}, impl.MaxProducts), fullMethod(3, [3]int64{9, 9, 9}, impl.MaxProducts), fullMethod(5, [3]int64{9, 9, 9}, impl.MaxProducts),
	} {
		calls = append(calls,
			methodCall{"KroneckerMethods with a long one", func(m impl.Method) (any, int64) { return pack(impl.KroneckerMethods(m, other)) }},
			methodCall{"KroneckerMethods of a long one", func(m impl.Method) (any, int64) { return pack(impl.KroneckerMethods(other, m)) }},
		)
	}
	return calls
}

// TestMethodsInvalidComesFirst tests that ErrInvalid is told ahead of what is wrong with other arguments, of
// primes that differ and of what would be too long.
func TestMethodsInvalidComesFirst(t *testing.T) {
	for name, m := range notMethods() {
		for _, call := range append(methodCalls(), badMethodCalls()...) {
			result, code := call.run(m)
			wantError(t, call.name+" of a method with "+name, result, code, impl.ErrInvalid)
		}
	}
}

// bilinearTensorCalls returns calls of functions of chapter 9 with a tensor, some of them with arguments that
// do not fit.
func bilinearTensorCalls() []tensorCall {
	calls := []tensorCall{
		{"ValueOfTensor", func(x impl.Tensor) (any, int64) { return pack(impl.ValueOfTensor(x, []int64{1, 0}, []int64{1, 1})) }},
		{"ValueOfTensor of nothing", func(x impl.Tensor) (any, int64) { return pack(impl.ValueOfTensor(x, nil, nil)) }},
		{"ValueOfTensor of one number", func(x impl.Tensor) (any, int64) { return pack(impl.ValueOfTensor(x, []int64{0}, []int64{0})) }},
		{"ValueOfTensor of great numbers", func(x impl.Tensor) (any, int64) { return pack(impl.ValueOfTensor(x, []int64{1, 7}, []int64{-1})) }},
		{"PlainMethod", func(x impl.Tensor) (any, int64) { return pack(impl.PlainMethod(x)) }},
		{"BoundOf", func(x impl.Tensor) (any, int64) { return pack(impl.BoundOf(x)) }},
	}
	for _, m := range []impl.Method{{}, karatsuba(2), fullMethod(5, [3]int64{9, 9, 9}, impl.MaxProducts), bareMethod(3, [3]int64{2, 2, 2}), bareMethod(5, [3]int64{1, 1, 1})} {
		calls = append(calls, tensorCall{fmt.Sprint("MethodFits of ", m), func(x impl.Tensor) (any, int64) { return pack(impl.MethodFits(m, x)) }})
	}
	return calls
}

func TestBilinearTensorsInvalidComesFirst(t *testing.T) {
	for name, x := range notTensors() {
		for _, call := range bilinearTensorCalls() {
			result, code := call.run(x)
			wantError(t, call.name+" of a tensor with "+name, result, code, impl.ErrInvalid)
		}
	}
	great := makeTensor(5, [3]int64{9, 9, 9}, func(i, j, k int64) int64 { return 1 })
	great.Numbers[728] = 5
	made, code := impl.PlainMethod(great)
	wantError(t, "PlainMethod of many numbers, the last one too great", made, code, impl.ErrInvalid)
}

func TestMethodsOfNoSchemes(t *testing.T) {
	for name, x := range notSchemes() {
		made, code := impl.MethodOfScheme(x)
		wantError(t, "MethodOfScheme of a scheme with "+name, made, code, impl.ErrInvalid)
	}
}

// wantNotMade tests that neither a method nor a tensor with these sides makes anything of two lists.
func wantNotMade(t *testing.T, m impl.Method, x impl.Tensor, u, v []int64) {
	t.Helper()
	made, code := impl.MakeList(m, u, v)
	wantError(t, fmt.Sprint("MakeList of ", u, v), made, code, impl.ErrRange)
	made, code = impl.ValueOfTensor(x, u, v)
	wantError(t, fmt.Sprint("ValueOfTensor of ", u, v), made, code, impl.ErrRange)
}

// TestListsOfWrongLengths has lists that are too short, too long, empty and nil.
func TestListsOfWrongLengths(t *testing.T) {
	s := &sequence{}
	for _, p := range primes {
		for _, sides := range someSides {
			m, x := someMethod(s, p, sides, 3), tensorsOf(s, p, sides)[7]
			u, v := someList(s, p, m.I), someList(s, p, m.J)
			for side, length := range sides[:2] {
				lists := [][]int64{nil, {}}
				for _, other := range append(sides[:], length-1, length+1, 2*length, 10, 1000) {
					if other != length && other > 0 {
						lists = append(lists, someList(s, p, other))
					}
				}
				for _, list := range lists {
					if side == 0 {
						wantNotMade(t, m, x, list, v)
					} else {
						wantNotMade(t, m, x, u, list)
					}
					wantNotMade(t, m, x, list, nil)
					wantNotMade(t, m, x, nil, list)
				}
			}
		}
	}
}

// TestListsOfWrongNumbers has wrong numbers at each place of both lists, also where they are not used.
func TestListsOfWrongNumbers(t *testing.T) {
	s := &sequence{}
	for _, p := range primes {
		for _, sides := range someSides {
			m, x := someMethod(s, p, sides, 3), tensorsOf(s, p, sides)[7]
			zero := makeTensor(p, sides, func(i, j, k int64) int64 { return 0 })
			for side, length := range sides[:2] {
				for place := range length {
					for _, wrong := range notNumbers(p) {
						lists := [2][]int64{someList(s, p, m.I), someList(s, p, m.J)}
						lists[side][place] = wrong
						wantNotMade(t, m, x, lists[0], lists[1])
						wantNotMade(t, bareMethod(p, sides), zero, lists[0], lists[1])
					}
				}
			}
		}
	}
}

// TestLimitsOfPlainMethods has MaxProducts numbers other than 0, and one more and one less, at drawn places, at
// the first ones and at the last ones.
func TestLimitsOfPlainMethods(t *testing.T) {
	s := &sequence{}
	for _, p := range primes {
		for _, sides := range [][3]int64{{4, 4, 2}, {9, 9, 1}, {1, 9, 9}, {9, 1, 9}, {9, 9, 9}, {2, 4, 4}} {
			for count := impl.MaxProducts - 1; count <= impl.MaxProducts+2; count++ {
				front := makeTensor(p, sides, func(i, j, k int64) int64 { return 0 })
				for at := range count {
					front.Numbers[at] = p - 1
				}
				back := front
				back.Numbers = slices.Clone(front.Numbers)
				slices.Reverse(back.Numbers)
				for _, x := range []impl.Tensor{front, back, thinTensor(s, p, sides, count)} {
					if m, fits := plainOfTensor(t, x); fits != (count <= impl.MaxProducts) || fits && len(m.Products) != count {
						t.Fatalf("PlainMethod of %d numbers has %d products", count, len(m.Products))
					}
				}
			}
		}
		made, code := impl.PlainMethod(makeTensor(p, [3]int64{9, 9, 9}, func(i, j, k int64) int64 { return 1 }))
		wantError(t, "PlainMethod of numbers at all places", made, code, impl.ErrLimit)
	}
}

// notLengths are values that are no n of a polynomial tensor; some are one in their lowest bytes.
var notLengths = []int64{0, -1, -9, 10, 11, 256 + 1, 1 << 32, 1<<32 + 1, 1 << 62, 1<<63 - 1, -1 << 63}

// TestRangesOfPolynomials tests that ErrRange is told ahead of ErrLimit.
func TestRangesOfPolynomials(t *testing.T) {
	for n := int64(1); n <= impl.MaxSide; n++ {
		for m := int64(1); m <= impl.MaxSide; m++ {
			for _, p := range primes {
				made, code := impl.PolynomialTensor(p, n, m)
				if n+m-1 > impl.MaxSide {
					wantError(t, fmt.Sprint("PolynomialTensor of ", p, n, m), made, code, impl.ErrLimit)
				} else {
					wantTensor(t, "PolynomialTensor", fmt.Sprint(p, n, m), made, code, expectPolynomial(p, n, m))
				}
			}
			for _, p := range notPrimes {
				made, code := impl.PolynomialTensor(p, n, m)
				wantError(t, fmt.Sprint("PolynomialTensor of ", p, n, m), made, code, impl.ErrRange)
			}
		}
	}
	for _, n := range notLengths {
		for _, m := range append(slices.Clone(notLengths), 1, 2, 5, 9) {
			for _, p := range append(slices.Clone(primes), notPrimes...) {
				made, code := impl.PolynomialTensor(p, n, m)
				wantError(t, fmt.Sprint("PolynomialTensor of ", p, n, m), made, code, impl.ErrRange)
				made, code = impl.PolynomialTensor(p, m, n)
				wantError(t, fmt.Sprint("PolynomialTensor of ", p, m, n), made, code, impl.ErrRange)
			}
		}
	}
}

func TestRangesOfRests(t *testing.T) {
	s := &sequence{}
	for _, p := range primes {
		for length := range int64(12) {
			made, code := impl.RestTensor(p, someList(s, p, length))
			if length < 1 || length > impl.MaxRest {
				wantError(t, fmt.Sprint("RestTensor of ", length, " numbers"), made, code, impl.ErrRange)
			} else {
				wantSame(t, fmt.Sprint("IsTensor of RestTensor of ", length, " numbers"), impl.IsTensor(made), true)
				wantCode(t, "RestTensor", code, impl.ErrNone)
			}
			for place := range length {
				for _, wrong := range notNumbers(p) {
					list := someList(s, p, length)
					list[place] = wrong
					made, code := impl.RestTensor(p, list)
					wantError(t, fmt.Sprint("RestTensor of ", list), made, code, impl.ErrRange)
				}
			}
		}
		made, code := impl.RestTensor(p, nil)
		wantError(t, "RestTensor of nothing", made, code, impl.ErrRange)
		made, code = impl.RestTensor(p, make([]int64, 1000))
		wantError(t, "RestTensor of 1000 numbers", made, code, impl.ErrRange)
	}
	for _, p := range notPrimes {
		for _, list := range [][]int64{{0}, {1, 0}, {0, 0, 0, 0}, nil, make([]int64, 5), {p - 1}} {
			made, code := impl.RestTensor(p, list)
			wantError(t, fmt.Sprint("RestTensor of ", p, list), made, code, impl.ErrRange)
		}
	}
}

func TestRangesOfTriangles(t *testing.T) {
	for _, n := range []int64{0, 1, 2, 3, 4, 5, 6, 9, 10, -1, -2, -3, -4, 257, 1 << 32, 1<<32 + 1, 1 << 62, 1<<63 - 1, -1 << 63} {
		for _, p := range primes {
			made, code := impl.TriangularTensor(p, n)
			if n < 1 || n > 3 {
				wantError(t, fmt.Sprint("TriangularTensor of ", n), made, code, impl.ErrRange)
			} else {
				wantTensor(t, "TriangularTensor", n, made, code, expectTriangular(p, n))
			}
		}
		for _, p := range notPrimes {
			made, code := impl.TriangularTensor(p, n)
			wantError(t, fmt.Sprint("TriangularTensor of ", p, n), made, code, impl.ErrRange)
		}
	}
}

func TestKaratsubaMethodPrimes(t *testing.T) {
	for _, p := range notPrimes {
		made, code := impl.KaratsubaMethod(p)
		wantError(t, fmt.Sprint("KaratsubaMethod of ", p), made, code, impl.ErrRange)
	}
}

// TestKroneckerMethodsOfDifferentPrimes tests that ErrRange is told ahead of ErrLimit.
func TestKroneckerMethodsOfDifferentPrimes(t *testing.T) {
	for _, sides := range someSides {
		for _, products := range []int{0, 1, 6, impl.MaxProducts} {
			for _, p := range primes {
				for _, q := range primes {
					if made, code := impl.KroneckerMethods(fullMethod(p, sides, products), fullMethod(q, sides, products)); p != q {
						wantError(t, fmt.Sprint("KroneckerMethods for the primes ", p, q), made, code, impl.ErrRange)
					}
				}
			}
		}
	}
}

// TestKroneckerSides has sides of MaxSide and more, at each side alone, with few products and with too many.
func TestKroneckerSides(t *testing.T) {
	ofSide := func(side int, length int64, products int) impl.Method {
		sides := [3]int64{1, 1, 1}
		sides[side] = length
		return fullMethod(5, sides, products)
	}
	for side := range 3 {
		for first := int64(1); first <= impl.MaxSide; first++ {
			for second := int64(1); second <= impl.MaxSide; second++ {
				for _, products := range []int{0, 1, 5, 6} {
					made, code := impl.KroneckerMethods(ofSide(side, first, products), ofSide(side, second, products))
					if first*second > impl.MaxSide || products == 6 {
						wantError(t, fmt.Sprint("KroneckerMethods for the lengths ", first, second), made, code, impl.ErrLimit)
						continue
					}
					want, _ := expectMethodKronecker(ofSide(side, first, products), ofSide(side, second, products))
					wantMethod(t, fmt.Sprint("KroneckerMethods for the lengths ", first, second), made, code, want)
				}
			}
		}
	}
}

// TestKroneckerProductsOfMostProducts has all numbers of products. (31 can only be reached by what is no method.)
func TestKroneckerProductsOfMostProducts(t *testing.T) {
	s := &sequence{}
	for _, p := range primes {
		for first := range impl.MaxProducts + 1 {
			for second := range impl.MaxProducts + 1 {
				m, n := someMethod(s, p, [3]int64{2, 1, 3}, first), someMethod(s, p, [3]int64{1, 2, 3}, second)
				made, code := impl.KroneckerMethods(m, n)
				if first*second > impl.MaxProducts {
					wantError(t, fmt.Sprint("KroneckerMethods for ", first, " and ", second, " products"), made, code, impl.ErrLimit)
					continue
				}
				want, _ := expectMethodKronecker(m, n)
				wantMethod(t, fmt.Sprint("KroneckerMethods for ", first, " and ", second, " products"), made, code, want)
				wantSame(t, "products", len(made.Products), first*second)
			}
		}
		one, more := makeMethod(p, [3]int64{1, 1, 1}, "1 1 1"), fullMethod(p, [3]int64{1, 1, 1}, impl.MaxProducts+1)
		made, code := impl.KroneckerMethods(one, more)
		wantError(t, "KroneckerMethods with 31 products", made, code, impl.ErrInvalid)
	}
}

// TestInvalidSecondArguments tests that ErrInvalid is told for the second argument ahead of what else is wrong.
func TestInvalidSecondArguments(t *testing.T) {
	s := &sequence{}
	for _, p := range primes {
		for _, m := range []impl.Method{bareMethod(p, [3]int64{1, 1, 1}), karatsuba(p), someMethod(s, p, [3]int64{9, 9, 9}, impl.MaxProducts)} {
			for name, wrong := range notMethods() {
				made, code := impl.KroneckerMethods(m, wrong)
				wantError(t, "KroneckerMethods with a method with "+name, made, code, impl.ErrInvalid)
			}
			for name, wrong := range notTensors() {
				fits, code := impl.MethodFits(m, wrong)
				wantError(t, "MethodFits of a tensor with "+name, fits, code, impl.ErrInvalid)
			}
		}
	}
}
