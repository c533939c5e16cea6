package tests

import (
	"fmt"
	"slices"
	"testing"

	"loop.example/g01262/impl"
)

// makeMethod returns the method of products written as "A B C; A B C".
func makeMethod(p int64, sides [3]int64, products string) impl.Method {
	m := bareMethod(p, sides)
	m.Products = makeScheme(p, 0, 0, 0, products).Products
	return m
}

// someMethod returns a method with drawn products.
func someMethod(s *sequence, p int64, sides [3]int64, products int) impl.Method {
	m := bareMethod(p, sides)
	for len(m.Products) < products {
		var q impl.Product
		for which, side := range sides {
			*factor(&q, which) = someForm(s, p, side)
		}
		m.Products = append(m.Products, q)
	}
	return m
}

// fullMethod returns a method with the greatest numbers at all places.
func fullMethod(p int64, sides [3]int64, products int) impl.Method {
	m := bareMethod(p, sides)
	for range products {
		var q impl.Product
		for which, side := range sides {
			for place := range side {
				factor(&q, which)[place] = byte(p - 1)
			}
		}
		m.Products = append(m.Products, q)
	}
	return m
}

// lastMethod returns a method with numbers at the last places alone.
func lastMethod(p int64, sides [3]int64, products int) impl.Method {
	m := bareMethod(p, sides)
	for at := range products {
		var q impl.Product
		q.A[sides[0]-1], q.B[sides[1]-1], q.C[sides[2]-1] = byte(1+int64(at)%(p-1)), 1, byte(p-1)
		m.Products = append(m.Products, q)
	}
	return m
}

// drawnMethods returns methods for a prime and sides: without products, with some, with most of them, and with
// products that cancel each other.
func drawnMethods(s *sequence, p int64, sides [3]int64) []impl.Method {
	cancelled := someMethod(s, p, sides, 3)
	cancelled.Products = slices.Repeat(cancelled.Products, int(p))
	return []impl.Method{
		bareMethod(p, sides), someMethod(s, p, sides, 1), someMethod(s, p, sides, 2), someMethod(s, p, sides, 5),
		someMethod(s, p, sides, impl.MaxProducts-1), someMethod(s, p, sides, impl.MaxProducts),
		fullMethod(p, sides, 1), fullMethod(p, sides, impl.MaxProducts), lastMethod(p, sides, 4), cancelled,
	}
}

// thinTensor returns a tensor with as many numbers other than 0 as told, or at all places if there are fewer.
func thinTensor(s *sequence, p int64, sides [3]int64, count int) impl.Tensor {
	t := makeTensor(p, sides, func(i, j, k int64) int64 { return 0 })
	for left := min(count, len(t.Numbers)); left > 0; {
		if place := s.below(int64(len(t.Numbers))); t.Numbers[place] == 0 {
			t.Numbers[place] = 1 + s.below(p-1)
			left--
		}
	}
	return t
}

// thinTensors returns tensors for a prime and sides, most of which have plain methods.
func thinTensors(s *sequence, p int64, sides [3]int64) []impl.Tensor {
	return append(tensorsOf(s, p, sides),
		thinTensor(s, p, sides, 1), thinTensor(s, p, sides, 2), thinTensor(s, p, sides, 7), thinTensor(s, p, sides, 17),
		thinTensor(s, p, sides, impl.MaxProducts-1), thinTensor(s, p, sides, impl.MaxProducts), thinTensor(s, p, sides, impl.MaxProducts+1),
	)
}

// plainMethods returns the plain methods of those of these tensors that have one.
func plainMethods(s *sequence, p int64, sides [3]int64) []impl.Method {
	var list []impl.Method
	for _, x := range thinTensors(s, p, sides) {
		if m, fits := expectPlainMethod(x); fits {
			list = append(list, m)
		}
	}
	return list
}

// schemeMethods returns the methods of correct schemes of all sizes, and of others.
func schemeMethods(s *sequence, p int64) []impl.Method {
	var list []impl.Method
	for at := range int64(27) {
		n, m, k := at/9+1, at/3%3+1, at%3+1
		for _, x := range append(correctSchemes(p, n, m, k), someScheme(s, p, n, m, k, 0), someScheme(s, p, n, m, k, 4)) {
			list = append(list, expectSchemeMethod(x))
		}
	}
	return list
}

// knownTensors returns polynomial, rest and triangular tensors.
func knownTensors(s *sequence, p int64) []impl.Tensor {
	var list []impl.Tensor
	for n := int64(1); n <= impl.MaxSide; n++ {
		for m := int64(1); n+m-1 <= impl.MaxSide; m++ {
			list = append(list, expectPolynomial(p, n, m))
		}
	}
	for d := int64(1); d <= impl.MaxRest; d++ {
		list = append(list, expectRest(p, someList(s, p, d)), expectRest(p, make([]int64, d)))
	}
	return append(list, expectTriangular(p, 1), expectTriangular(p, 2), expectTriangular(p, 3))
}

// methodsToMultiply returns methods with short sides, with long ones, with few products and with many.
func methodsToMultiply(s *sequence, p int64) []impl.Method {
	list := []impl.Method{
		karatsuba(p), expectMethodTurn(karatsuba(p)), expectSchemeMethod(strassen(p)), expectSchemeMethod(expectStandard(p, 1, 2, 1)),
		expectSchemeMethod(expectStandard(p, 3, 1, 1)), expectSchemeMethod(expectStandard(p, 3, 1, 3)),
	}
	for _, x := range []impl.Tensor{expectPolynomial(p, 2, 2), expectPolynomial(p, 1, 3), expectRest(p, []int64{1, 1}), expectRest(p, []int64{1, 0, 1}), expectTriangular(p, 2)} {
		m, _ := expectPlainMethod(x)
		list = append(list, m)
	}
	for _, sides := range [][3]int64{{1, 1, 1}, {1, 2, 1}, {2, 1, 3}, {3, 2, 1}, {2, 3, 4}, {3, 3, 3}, {4, 4, 4}, {9, 1, 1}, {1, 9, 2}, {2, 1, 9}, {9, 9, 9}} {
		for _, products := range []int{0, 1, 3, 6} {
			list = append(list, someMethod(s, p, sides, products))
		}
		list = append(list, someMethod(s, p, sides, impl.MaxProducts))
	}
	return list
}

// pairsOfMethods calls do for methods of all primes with each other.
func pairsOfMethods(do func(s *sequence, m, n impl.Method)) {
	s := &sequence{}
	for _, p := range primes {
		list := methodsToMultiply(s, p)
		for _, m := range list {
			for _, n := range list {
				do(s, m, n)
			}
		}
	}
}

// madeMethods returns methods made of others: products of some of the pairs, and turns of all.
func madeMethods(s *sequence, p int64) []impl.Method {
	var made []impl.Method
	list := methodsToMultiply(s, p)
	for _, m := range list {
		for range 9 {
			if both, fits := expectMethodKronecker(m, list[s.below(int64(len(list)))]); fits {
				made = append(made, both, expectMethodTurn(both))
			}
		}
		made = append(made, expectMethodTurn(m), expectMethodTurn(expectMethodTurn(m)))
	}
	return made
}

// eachMethod calls do for methods of all primes: drawn, plain, Karatsuba's, of schemes, and made of others.
func eachMethod(do func(s *sequence, m impl.Method)) {
	s := &sequence{}
	for _, p := range primes {
		list := append(schemeMethods(s, p), madeMethods(s, p)...)
		for _, sides := range someSides {
			list = slices.Concat(list, drawnMethods(s, p, sides), plainMethods(s, p, sides))
		}
		for _, x := range knownTensors(s, p) {
			if m, fits := expectPlainMethod(x); fits {
				list = append(list, m)
			}
		}
		for _, m := range append(list, karatsuba(p)) {
			do(s, m)
		}
	}
}

// someLists returns lists of numbers modulo p: zeros, the greatest numbers, a single 1, and drawn ones.
func someLists(s *sequence, p, length int64) [][]int64 {
	return [][]int64{
		make([]int64, length), slices.Repeat([]int64{p - 1}, int(length)), unitList(length, s.below(length)),
		someList(s, p, length), someList(s, p, length),
	}
}

// wantMethod tests that a call returned a method, and no error.
func wantMethod(t *testing.T, what string, made impl.Method, code int64, want impl.Method) {
	t.Helper()
	if code != impl.ErrNone || !sameMethod(made, want) {
		t.Fatalf("%s = %v, %d, want %v", what, made, code, want)
	}
	if !impl.IsMethod(made) || !expectMethod(made) {
		t.Fatalf("%s = %v, which is no method", what, made)
	}
}

// wantList tests that a call returned a list, and no error.
func wantList(t *testing.T, what string, made []int64, code int64, want []int64) {
	t.Helper()
	if code != impl.ErrNone || !slices.Equal(made, want) {
		t.Fatalf("%s = %v, %d, want %v", what, made, code, want)
	}
}

func tensorOfMethod(t *testing.T, m impl.Method) impl.Tensor {
	t.Helper()
	made, code := impl.TensorOfMethod(m)
	wantTensor(t, "TensorOfMethod", m, made, code, expectMethodTensor(m))
	return made
}

// plainOfTensor returns the plain method of a tensor, and false if it would have too many products.
func plainOfTensor(t *testing.T, x impl.Tensor) (impl.Method, bool) {
	t.Helper()
	made, code := impl.PlainMethod(x)
	want, fits := expectPlainMethod(x)
	if !fits {
		wantError(t, "PlainMethod", made, code, impl.ErrLimit)
		return impl.Method{}, false
	}
	wantMethod(t, fmt.Sprint("PlainMethod of ", x), made, code, want)
	return made, true
}

// kronecker returns the Kronecker product of two methods, and false if something would be too long.
func kronecker(t *testing.T, m, n impl.Method) (impl.Method, bool) {
	t.Helper()
	made, code := impl.KroneckerMethods(m, n)
	want, fits := expectMethodKronecker(m, n)
	if !fits {
		wantError(t, "KroneckerMethods", made, code, impl.ErrLimit)
		return impl.Method{}, false
	}
	wantMethod(t, fmt.Sprint("KroneckerMethods of ", m, " and ", n), made, code, want)
	return made, true
}

func turnOfMethod(t *testing.T, m impl.Method) impl.Method {
	t.Helper()
	made, code := impl.TurnMethod(m)
	wantMethod(t, fmt.Sprint("TurnMethod of ", m), made, code, expectMethodTurn(m))
	return made
}

func methodOfScheme(t *testing.T, x impl.Scheme) impl.Method {
	t.Helper()
	made, code := impl.MethodOfScheme(x)
	wantMethod(t, fmt.Sprint("MethodOfScheme of ", x), made, code, expectSchemeMethod(x))
	return made
}

func boundOf(t *testing.T, x impl.Tensor) int64 {
	t.Helper()
	bound, code := impl.BoundOf(x)
	if code != impl.ErrNone {
		t.Fatalf("BoundOf %v: code %d", x, code)
	}
	return bound
}

// wantFits tests whether a method fits a tensor.
func wantFits(t *testing.T, m impl.Method, x impl.Tensor, want bool) {
	t.Helper()
	if fits, code := impl.MethodFits(m, x); fits != want || code != impl.ErrNone {
		t.Fatalf("MethodFits of %v and %v = %v, %d, want %v", m, x, fits, code, want)
	}
}

// wantMade tests what a method and a tensor make of two lists, which is the same.
func wantMade(t *testing.T, m impl.Method, x impl.Tensor, u, v []int64) {
	t.Helper()
	made, code := impl.MakeList(m, u, v)
	wantList(t, fmt.Sprint("MakeList of ", m, u, v), made, code, expectMadeList(m, u, v))
	value, code := impl.ValueOfTensor(x, u, v)
	wantList(t, fmt.Sprint("ValueOfTensor of ", x, u, v), value, code, expectTensorValue(x, u, v))
	wantList(t, fmt.Sprint("MakeList of ", m, u, v, ", which the tensor makes,"), made, code, value)
}
